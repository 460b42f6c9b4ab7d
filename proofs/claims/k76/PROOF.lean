import PyProof.Rows.All
import Wide.All
import OpenK.AllK
import Wide.FinOn
import Lean
import PyProof.EqAt
import PyProof.EqKinds
import PyProof.TupleCall
import PySem.Challenge.RW_outweave_k76_whole_patches_in_a_row
set_option Elab.async false
set_option linter.all false
set_option maxRecDepth 100000
set_option maxHeartbeats 4000000
section
open PySem PyProof.Rows
abbrev za:=@wpAny_bind
abbrev zb:=@Nat.le_refl
abbrev zc:=@wpAny_pure
abbrev zd:=@List.length_map
abbrev ze:=@List.length_append
abbrev zf:=@Heap.lt_size
abbrev zg:=@List.getElem?_eq_getElem
abbrev zh:=@List.getElem?_eq_some_iff
abbrev zj:=@List.map_cons
abbrev zk:=@Bool.false_ne_true
abbrev zl:=@List.getElem?_map
abbrev zm:=@List.mem_cons
abbrev zn:=@Bool.and_eq_true
abbrev zo:=@decide_eq_false
abbrev zp:=@List.mem_singleton
abbrev zq:=@List.size_toArray
abbrev zr:=@List.mem_cons_self
abbrev zt:=@List.getElem?_set_ne
abbrev zu:=@Heap.get?_push_of_some
abbrev zv:=@List.getElem?_append_left
abbrev zw:=@List.mem_cons_of_mem
abbrev zx:=@Option.some.inj
abbrev zy:=@List.mem_of_getElem?
abbrev zz:=@decide_eq_true
abbrev zA:=@Nat.lt_of_lt_of_le
abbrev zB:=@Nat.ne_of_lt
abbrev zC:=@Nat.zero_add
abbrev zD:=@List.map_append
abbrev zE:=@List.length_cons
abbrev zF:=@List.mem_append
abbrev zG:=@Nat.le_trans
abbrev zH:=@Heap.get?_push_size
abbrev zI:=@List.getElem?_append_right
abbrev zJ:=@List.append_assoc
abbrev zK:=@List.nil_append
abbrev zL:=@Nat.lt_irrefl
abbrev zM:=@List.mem_append_right
abbrev zN:=@List.map_nil
abbrev zO:=@List.getElem?_set_self
abbrev zP:=@List.mem_map
abbrev zQ:=@List.getD_eq_getElem?_getD
abbrev zR:=@wpAny_mono
abbrev zS:=@List.append_nil
abbrev zT:=@wpAny_holding
abbrev zU:=@List.length_set
abbrev zV:=@List.getElem?_eq_none
abbrev zW:=@List.getElem_mem
abbrev zX:=@Nat.le_add_right
abbrev zY:=@List.length_singleton
abbrev zZ:=@List.nodup_append
abbrev ja:=@Int.emod_nonneg
abbrev jb:=@List.map_map
abbrev jc:=@Heap.get?_update_other
abbrev jd:=@Int.emod_lt_of_pos
abbrev je:=@wpAny_updateSeq
abbrev jf:=@List.mem_append_left
abbrev jg:=@Nat.lt_succ_self
abbrev jh:=@List.length_nil
abbrev ji:=@List.all_eq_true
abbrev jj:=@Nat.lt_succ_of_lt
abbrev jk:=@List.ext_getElem?
abbrev jl:=@Int.natCast_add
abbrev jm:=@List.flatten_append
abbrev jn:=@of_decide_eq_true
abbrev jo:=@List.map_congr_left
end
namespace PySem.W.Fast
abbrev tw4961816305883182497:=()
abbrev tw7311695120296051119:=()
abbrev tw5612982883629815900:=()
abbrev tw15353732702223921382:=()
abbrev tw8026863734534870132:=()
abbrev tw1828104032471786904:=()
abbrev tw15060087005272739084:=()
abbrev tw9763179640349547226:=()
abbrev tw1409996205467756746:=()
abbrev tw5371424127923435192:=()
abbrev tw18041618398406505283:=()
abbrev tw14589139538119207752:=()
abbrev tw11801255079311755934:=()
abbrev tw10631510694112584132:=()
abbrev tw12573861333941260393:=()
abbrev tw8416720020972580779:=()
end PySem.W.Fast
namespace PySem.W.Fast
end PySem.W.Fast
namespace L2
open PySem PySem.Spec PyProof.Rows
abbrev Key:=Sum Int Str
def nu:Key->Value->Bool
 | .inl k,v=>Value.isInt k v
 | .inr x,v=>Value.isStrOf x v
def Ms(w:World):Key->Int
 | .inl k=>hashInt k
 | .inr x=>hashStr w x
theorem jO:∀{k:Key}{v:Value},nu k v=true->(∃i t,k=Sum.inl i/\v=Value.int i t)\/(∃x t,k=Sum.inr x/\v=Value.str x t)
 | .inl i,v,h=>by
  obtain⟨t,e⟩:=Value.isInt_shape (k:=i) (v:=v) h;exact .inl ⟨i,t,rfl,e⟩
 | .inr x,v,h=>by
  obtain⟨t,e⟩:=Value.isStrOf_shape (x:=x) (v:=v) h;exact .inr ⟨x,t,rfl,e⟩
theorem Mt(i:Int)(t:Tok):nu (.inl i) (.int i t)=true:=by simp[nu,Value.isInt]
theorem Mu(x:Str)(t:Tok):nu (.inr x) (.str x t)=true:=by simp[nu,Value.isStrOf]
theorem Mv(a b:Int):decide ((Sum.inl a:Key)=Sum.inl b)=(a == b):=by
 by_cases e:a=b
 ·subst e;simp
 ·have h:¬(Sum.inl a:Key)=Sum.inl b:=λq=>e (Sum.inl.inj q)
  rw[zo h];exact(beq_eq_false_iff_ne.mpr e).symm
theorem Mw(a b:Str):decide ((Sum.inr a:Key)=Sum.inr b)=decide (a=b):=by
 by_cases e:a=b
 ·subst e;simp
 ·have h:¬(Sum.inr a:Key)=Sum.inr b:=λq=>e (Sum.inr.inj q)
  rw[zo h,zo e]
theorem Mx(a:Int)(b:Str):decide ((Sum.inl a:Key)=Sum.inr b)=false:=zo (λq=>nomatch q)
theorem Mz(a:Str)(b:Int):decide ((Sum.inr a:Key)=Sum.inl b)=false:=zo (λq=>nomatch q)
def fP(prog:Program)(w:World):PySem.KeyKind prog w Key where
 is:=nu
 hash:=Ms w
 inj:=λv a b ha hb=>by
  rcases jO ha with⟨i,t,rfl,rfl⟩ | ⟨x,t,rfl,rfl⟩
  ·rcases jO hb with⟨j,u,rfl,e⟩ | ⟨y,u,rfl,e⟩
   ·injection e with e1 _;rw[e1]
   ·exact nomatch e
  ·rcases jO hb with⟨j,u,rfl,e⟩ | ⟨y,u,rfl,e⟩
   ·exact nomatch e
   ·injection e with e1 _;rw[e1]
 byValue:=λk v h=>by
  rcases jO h with⟨i,t,rfl,rfl⟩ | ⟨x,t,rfl,rfl⟩<;>rfl
 pyHash:=λhv h=>by
  rcases jO hv with⟨i,t,rfl,rfl⟩ | ⟨x,t,rfl,rfl⟩
  ·exact wpAny_pyHash_int h
  ·exact wpAny_pyHash_str h
 eqBool:=λhu hv h=>by
  rcases jO hu with⟨i,t,rfl,rfl⟩ | ⟨x,t,rfl,rfl⟩
  ·rcases jO hv with⟨j,u,rfl,rfl⟩ | ⟨y,u,rfl,rfl⟩
   ·rw[Mv] at h;exact wpAny_eqBool_int h
   ·rw[Mx] at h;exact SeqAt.EqAt.int_str i t y u _ _ _ _ h
  ·rcases jO hv with⟨j,u,rfl,rfl⟩ | ⟨y,u,rfl,rfl⟩
   ·rw[Mz] at h;exact SeqAt.EqAt.str_int x t j u _ _ _ _ h
   ·rw[Mw] at h;exact wpAny_eqBool_str h
 «strs»:=λk x t v h=>by
  rcases jO h with⟨i,u,rfl,e⟩ | ⟨y,u,rfl,e⟩
  ·exact nomatch e
  ·injection e with e1 _
   subst e1
   cases v<;>rfl
theorem MF(prog:Program)(w:World)(i:Int)(t:Tok):(fP prog w).is (.inl i) (.int i t)=true:=Mt i t
theorem MJ(prog:Program)(w:World)(x:Str)(t:Tok):(fP prog w).is (.inr x) (.str x t)=true:=Mu x t
inductive V where
 | non | bl (b:Bool) | int (i:Int) | str (x:Str) | byt (b:Array UInt8) | flt (b:UInt64) | ref (a:Addr) | ty (n:String)
 deriving DecidableEq
def RelV:V->Value->Prop
 | .non,u=>u=Value.none
 | .bl b,u=>u=Value.bool b
 | .int i,u=>∃t,u=Value.int i t
 | .str x,u=>∃t,u=Value.str x t
 | .byt b,u=>∃t,u=Value.bytes b t
 | .flt b,u=>∃t,u=Value.float b t
 | .ref a,u=>u=Value.ref a
 | .ty n,u=>u=Value.type n
abbrev aR:List V->List Value->Prop:=Paired RelV
theorem aR.length{xs:List V}{us:List Value}(r:aR xs us):xs.length=us.length:=Paired.length r
theorem aR.get:∀{xs:List V}{us:List Value}{i:Nat}{x:V},aR xs us->xs[i]?=some x->∃u,us[i]?=some u/\RelV x u
 | _,_,_,_,.nil,e=>by simp at e
 | _,_,0,_,.cons r _,e=>by simp at e;subst e;exact⟨_,rfl,r⟩
 | _,_,i+1,x,.cons _ t,e=>by
  obtain⟨u,h1,h2⟩:=aR.get (i:=i) (x:=x) t (by simpa using e);exact⟨u,by simpa using h1,h2⟩
theorem aR.set{x:V}{u:Value}(r:RelV x u):∀{xs:List V}{us:List Value} (i:Nat),aR xs us->aR (xs.set i x) (us.set i u)
 | _,_,_,.nil=>.nil
 | _,_,0,.cons _ t=>.cons r t
 | _,_,i+1,.cons q t=>.cons q (aR.set r i t)
theorem aR.append:∀{xs ys:List V}{us ws:List Value},aR xs us->aR ys ws->aR (xs++ys) (us++ws)
 | _,_,_,_,.nil,s=>s
 | _,_,_,_,.cons r t,s=>.cons r (aR.append t s)
theorem aR.take:∀{xs:List V}{us:List Value} (n:Nat),aR xs us->aR (xs.take n) (us.take n)
 | _,_,0,_=>.nil
 | _,_,_+1,.nil=>.nil
 | _,_,n+1,.cons r t=>.cons r (aR.take n t)
theorem aR.drop:∀{xs:List V}{us:List Value} (n:Nat),aR xs us->aR (xs.drop n) (us.drop n)
 | _,_,0,r=>r
 | _,_,_+1,.nil=>.nil
 | _,_,n+1,.cons _ t=>aR.drop n t
def fJ:Option V->Option Value->Prop
 |some v,some u=>RelV v u
 |none,none=>True
 | _,_=>False
def KV{κ:Type}:List (κ×V)->List (κ×Value)->Prop:=Paired λ(p:κ×V) (q:κ×Value)=>p.1=q.1/\RelV p.2 q.2
def kV:Key->V
 | .inl i=>.int i
 | .inr x=>.str x
inductive HO where
  | lst (xs:List V)
  | tup (xs:List V)
  | dK (kvs:List (Key×V)) | dT (kvs:List (List Key×V))
  | set (S:Int->Bool) (n:Nat)
  | ins (C dx:Addr) (fs:List (Str×V))
  | own (x:Addr)
  | xd (fs:List (Str×V))
  | met (f x:Addr)
  | rng (lo hi:Int)
  | frz (o:Obj) (u:HO)
  | tbl (ps:Array Value)
  | ext (φ:Heap->Prop)
abbrev Hp:=Addr->Option HO
def upd(H:Hp)(a:Addr)(o:HO):Hp:=λb=>if b=a then some o else H b
theorem bJ{H:Hp}{a:Addr}{o:HO}:upd H a o a=some o:=by unfold upd;rw[if_pos rfl]
theorem aK{H:Hp}{a b:Addr}{o:HO}(h:b≠a):upd H a o b=H b:=by unfold upd;rw[if_neg h]
theorem ne_of{H:Hp}{a b:Addr}{o u:HO}(h:H a=some o)(h':H b=some u)(d:o≠u):a≠b:=by
 intro e;subst e;rw[h] at h';exact d (zx h')
theorem bT{H:Hp}{a b:Addr}{o:HO}(h:H a=some o)(h':H b=none):a≠b:=by
 intro e;subst e;rw[h] at h';cases h'
section
variable (P:Program)(w:World)
def cG(H:Hp)(h:Heap)(a:Addr):HO->Prop
 | .lst xs=>xs.length<=sizeLine/\∃(its:List Value) (n:Nat),aR xs its/\h.get? a=some {cls:=.type "list",data:=.seq its.toArray n}
 | .tup xs=>xs.length<=sizeLine/\∃its:List Value,aR xs its/\IsTup h a its.toArray
 | .dK kvs=>kvs.length<=sizeLine/\(a == sysModules)=false/\∃vs,KV kvs vs/\h.DictOf (fP P w) a vs
 | .dT kvs=>kvs.length<=sizeLine/\(a == sysModules)=false/\∃xs:List (List Key×Addr×Value),
   Paired (λ(p:List Key×V) (q:List Key×Addr×Value)=>p.1=q.1/\H q.2.1=some (.tup (p.1.map kV))/\RelV p.2 q.2.2) kvs xs /\
   ∃o es ep,h.get? a=some o/\o.ExactDict/\o.data=.dict es ep/\es.toList=xs.map (entryOfKey (tupleKind (fP P w)))/\(xs.map (·.1)).Nodup
 | .set S n=>h.SetOf (intKind P w) a S n
 | .ins C dx fs=>H dx=some (.own a)/\fs.length<=1000/\dx≠a/\h.get? a=some (PySem.W.instObj C dx) /\
   ∃mA,h.Ns1 dx mA/\(∀f,fJ (fs.lookup f) (mA f))/\PySem.Within mA (fs.map (·.1))
 | .own _=>∃o,h.get? a=some o
 | .xd fs=>∃mA,h.Ns1 a mA/\∀f,fJ (fs.lookup f) (mA f)
 | .rng lo hi=>∃t u v,h.get? a=some {cls:=.type "range",data:=.fields #[.int lo t,.int hi u,.int 1 v]}
 | .frz o u=>h.get? a=some o/\cG H h a u
 | .tbl ps=>h.get? a=some {cls:=.none,data:=.fields ps}
 | .met f x=>h.get? a=some (PySem.W.methodObj (.ref f) (.ref x))
 | .ext φ=>φ h/\(∃o,h.get? a=some o)/\∀h1 h2:Heap,φ h1->(∀o,h1.get? a=some o->h2.get? a=some o)->φ h2
def HOk(H:Hp)(h:Heap):Prop:=∀a o,H a=some o->cG P w H h a o
end
section
variable {P:Program}{w:World}{H H':Hp}{h h':Heap}{a:Addr}{o:HO}
theorem cG.lt(x:cG P w H h a o):a<h.objs.size:=by
 cases o with
 |lst xs=>obtain⟨_,_,_,_,e⟩:=x;exact zf e
 |tup xs=>obtain⟨_,_,_,p⟩:=x;exact p.lt
 |dK kvs=>obtain⟨_,_,_,_,o,_,_,e,_⟩:=x;exact zf e
 |dT kvs=>obtain⟨_,_,_,_,o,_,_,e,_⟩:=x;exact zf e
 |set S n=>obtain⟨o,_,_,_,e,_⟩:=x;exact zf e
 |ins C dx fs=>obtain⟨_,_,_,e,_⟩:=x;exact zf e
 |own y=>obtain⟨_,e⟩:=x;exact zf e
 |xd fs=>obtain⟨_,⟨_,_,_,e,_⟩,_⟩:=x;exact zf e
 |rng lo hi=>obtain⟨_,_,_,e⟩:=x;exact zf e
 |frz ob u=>obtain⟨e,_⟩:=x;exact zf e
 |tbl ps=>exact zf (show h.get? a=some _ from x)
 |met f y=>exact zf (show h.get? a=some _ from x)
 |ext φ=>obtain⟨_,⟨_,e⟩,_⟩:=x;exact zf e
theorem Paired.mapP{α β:Type}{F G:α->β->Prop}:∀{l₁:List α}{l₂:List β},Paired F l₁ l₂->(∀a b,F a b->G a b)->Paired G l₁ l₂
 | _,_,.nil,_=>.nil
 | _,_,.cons r t,f=>.cons (f _ _ r) (Paired.mapP t f)
theorem cG.stay(x:cG P w H h a o)(k:∀b u,(b=a\/H b=some (.own a))->h.get? b=some u->h'.get? b=some u)
  (ho:∀b,H b=some (.own a)->H' b=some (.own a)) (ht:∀b xs,H b=some (.tup xs)->H' b=some (.tup xs)):cG P w H' h' a o:=by
 induction o with
 |lst xs=>obtain⟨z,its,n,r,e⟩:=x;exact⟨z,its,n,r,k _ _ (.inl rfl) e⟩
 |tup xs=>obtain⟨z,its,r,ob,e,c⟩:=x;exact⟨z,its,r,ob,k _ _ (.inl rfl) e,c⟩
 |dK kvs=>obtain⟨z,y,vs,r,ob,es,ep,e,c⟩:=x;exact⟨z,y,vs,r,ob,es,ep,k _ _ (.inl rfl) e,c⟩
 |dT kvs =>
  obtain⟨z,y,xs,r,ob,es,ep,e,c⟩:=x;exact⟨z,y,xs,Paired.mapP r λp q z=>⟨z.1,ht _ _ z.2.1,z.2.2⟩,ob,es,ep,k _ _ (.inl rfl) e,c⟩
 |set S n=>obtain⟨ob,es,ep,t,e,c⟩:=x;exact⟨ob,es,ep,t,k _ _ (.inl rfl) e,c⟩
 |ins C dx fs =>
  obtain⟨d,z,ne,e,mA,⟨od,es,ep,e2,c⟩,r⟩:=x;exact⟨ho _ d,z,ne,k _ _ (.inl rfl) e,mA,⟨od,es,ep,k _ _ (.inr d) e2,c⟩,r⟩
 |own y=>obtain⟨ob,e⟩:=x;exact⟨ob,k _ _ (.inl rfl) e⟩
 |xd fs=>obtain⟨mA,⟨od,es,ep,e,c⟩,r⟩:=x;exact⟨mA,⟨od,es,ep,k _ _ (.inl rfl) e,c⟩,r⟩
 |rng lo hi=>obtain⟨t,u,v,e⟩:=x;exact⟨t,u,v,k _ _ (.inl rfl) e⟩
 |frz ob u ih=>obtain⟨e,q⟩:=x;exact⟨k _ _ (.inl rfl) e,ih q⟩
 |tbl ps =>
  have e:h.get? a=some {cls:=.none,data:=.fields ps}:=x;show h'.get? a=some {cls:=.none,data:=.fields ps};exact k a _ (.inl rfl) e
 |met f y =>
  have e:h.get? a=some (PySem.W.methodObj (.ref f) (.ref y)):=x;show h'.get? a=some (PySem.W.methodObj (.ref f) (.ref y));exact k a _ (.inl rfl) e
 |ext φ=>obtain⟨p,⟨o,e⟩,st⟩:=x;exact⟨st _ _ p λo q=>k _ _ (.inl rfl) q,⟨o,k _ _ (.inl rfl) e⟩,st⟩
theorem HOk.lt(x:HOk P w H h)(e:H a=some o):a<h.objs.size:=(x a o e).lt
theorem HOk.fresh(x:HOk P w H h)(e:h.objs.size<=a):H a=none:=by
 cases q:H a with
 |none=>rfl
 |some u=>exact absurd (zA (x.lt q) e) (zL _)
theorem HOk.kept(x:HOk P w H h)(k:∀b u,h.get? b=some u->h'.get? b=some u):HOk P w H h':=λa o e =>
 (x a o e).stay (λb u _ q=>k b u q) (λ_ q=>q) λ_ _ q=>q
theorem HOk.laid(x:HOk P w H h)(k:∀b u,h.get? b=some u->h'.get? b=some u)(hp:h.objs.size<=a)(new:cG P w (upd H a o) h' a o):HOk P w (upd H a o) h':=λb u e=>by
 have hn:=x.fresh hp
 by_cases hb:b=a
 ·subst hb;rw[bJ] at e;cases e;exact new
 ·rw[aK hb] at e
  exact(x b u e).stay (λc v _ q=>k c v q) (λc q=>by rw[aK (bT q hn)];exact q) λc xs q=>by rw[aK (bT q hn)];exact q
end
def Rd(H:Hp)(a:Addr)(u:HO):Prop:=H a=some u\/∃o,H a=some (.frz o u)
theorem Rd.ok{P:Program}{w:World}{H:Hp}{h:Heap}{a:Addr}{u:HO}(r:Rd H a u)(x:HOk P w H h):cG P w H h a u:=by
 rcases r with r | ⟨o,r⟩
 ·exact x a u r
 ·obtain⟨_,q⟩:=x a _ r;exact q
def Mut:Option HO->Prop
 |some (.lst _)=>True
 |some (.dK _)=>True
 |some (.dT _)=>True
 |some (.set _ _)=>True
 |some (.ins _ _ _)=>True
 |some (.ext _)=>True
 | _=>False
section
variable {P:Program}{w:World}{H:Hp}{h h':Heap}{x e:Addr}{o':HO}
theorem HOk.write(ok:HOk P w H h)(mu:Mut (H x))(he:e=x\/H e=some (.own x))(k:∀b u,b≠e->h.get? b=some u->h'.get? b=some u)(heo:∃u,h'.get? e=some u)
  (new:cG P w (upd H x o') h' x o'):HOk P w (upd H x o') h':=λb u q=>by
 have nown:∀c y,H c=some (.own y)->c≠x:=λc y r z=>by subst z;rw[r] at mu;exact mu
 have ntup:∀c xs,H c=some (.tup xs)->c≠x:=λc xs r z=>by subst z;rw[r] at mu;exact mu
 by_cases hb:b=x
 ·subst hb;rw[bJ] at q;cases q;exact new
 ·rw[aK hb] at q
  by_cases hbe:b=e
  ·have q':H b=some (.own x):=by
    rcases he with z | z
    ·exact absurd (hbe.trans z) hb
    ·rw[hbe];exact z
   rw[q] at q';cases q';obtain⟨v,hv⟩:=heo;exact⟨v,by rw[hbe];exact hv⟩
  ·refine(ok b u q).stay (λc v hc r=>k c v ?_ r) (λc r=>by rw[aK (nown c b r)];exact r) λc xs r=>by rw[aK (ntup c xs r)];exact r
   rcases hc with rfl | hc
   ·exact hbe
   ·rintro rfl
    rcases he with z | z
    ·exact nown c b hc z
    ·rw[hc] at z;cases z;exact hb rfl
end
structure Un(fs ex:List Addr)(H H':Hp)(h h':Heap):Prop where
 keep:∀b o,h.get? b=some o->H b=none->b∉fs->b∉ex->h'.get? b=some o
 slot:∀b o,h.get? b=some o->H b=none->b∈fs->b∉ex->∃sl,h'.get? b=some {o with slots:=sl}
 free:∀b o,h.get? b=some o->H b=none->b∉ex->H' b=none
 there:∀b o,h.get? b=some o->b∉ex->∃o',h'.get? b=some o'
 tups:∀b xs,H b=some (.tup xs)->H' b=some (.tup xs)
 frzs:∀b o u,H b=some (.frz o u)->H' b=some (.frz o u)
 tbls:∀b ps,H b=some (.tbl ps)->∃more,H' b=some (.tbl (ps++more))
section
variable {fs fs' ex ex':List Addr}{H H1 H2:Hp}{h h1 h2 h':Heap}{a x e:Addr}{o:HO}
theorem Un.any(u:Un fs ex H H1 h h1){b:Addr}{ob:Obj}(q:h.get? b=some ob)(n:H b=none)(hx:b∉ex):∃sl,h1.get? b=some {ob with slots:=sl}:=by
 by_cases hb:b∈fs
 ·exact u.slot b ob q n hb hx
 ·exact⟨ob.slots,u.keep b ob q n hb hx⟩
theorem Un.kept(k:∀b u,h.get? b=some u->h'.get? b=some u):Un fs ex H H h h' :=
 ⟨λb ob q _ _ _=>k b ob q,λb ob q _ _ _=>⟨ob.slots,k b ob q⟩,λ_ _ _ n _=>n,λb ob q _=>⟨ob,k b ob q⟩,λ_ _ q=>q,λ_ _ _ q=>q,λ_ ps q=>⟨#[],by rw[q];simp⟩⟩
theorem Un.refl:Un fs ex H H h h:=Un.kept λ_ _ q=>q
theorem Un.laid(k:∀b u,h.get? b=some u->h'.get? b=some u)(hp:h.objs.size<=a)(hn:H a=none):Un fs ex H (upd H a o) h h' where
 keep:=λb u q _ _ _=>k b u q
 slot:=λb u q _ _ _=>⟨u.slots,k b u q⟩
 free:=λb u q n _=>by rw[aK (zB (zA (zf q) hp))];exact n
 there:=λb u q _=>⟨u,k b u q⟩
 tups:=λb xs q=>by rw[aK (bT q hn)];exact q
 frzs:=λb u xs q=>by rw[aK (bT q hn)];exact q
 tbls:=λb ps q=>⟨#[],by rw[aK (bT q hn),q];simp⟩
theorem Un.write(mu:Mut (H x))(he:e=x\/H e=some (.own x))(k:∀b u,b≠e->h.get? b=some u->h'.get? b=some u)(heo:∃u,h'.get? e=some u):Un fs ex H (upd H x o) h h':=by
 have hx:∀b,H b=none->b≠x:=λb n z=>by subst z;rw[n] at mu;exact mu
 have hb:∀b,H b=none->b≠e:=λb n z=>by
  subst z
  rcases he with r | r
  ·exact hx b n r
  ·rw[n] at r;cases r
 have hm:∀b u,H b=some u->¬Mut (some u)->b≠x:=λb u q nm z=>by subst z;rw[q] at mu;exact nm mu
 refine⟨λb u q n _ _=>k b u (hb b n) q,λb u q n _ _=>⟨u.slots,k b u (hb b n) q⟩,λb u q n _=>by rw[aK (hx b n)];exact n,λb u q _=>?_,
  λb xs q=>by rw[aK (hm b _ q λz=>z)];exact q,λb u xs q=>by rw[aK (hm b _ q λz=>z)];exact q,λb ps q=>⟨#[],by rw[aK (hm b _ q λz=>z),q];simp⟩⟩
 by_cases hbe:b=e
 ·subst hbe;exact heo
 ·exact⟨u,k b u hbe q⟩
end
def trk(h:Heap)(H:Hp):List Addr:=(List.range h.objs.size).filter λa=>(H a).isSome
def fY(h:Heap)(H:Hp):Heap:=PySem.W.hideAll h (trk h H)
theorem DQ(h:Heap)(H:Hp):(fY h H).objs.size=h.objs.size:=PySem.W.hideAll_size _ _
theorem DR{h:Heap}{H:Hp}{b:Addr}{o:Obj}(e:h.get? b=some o)(n:H b=none):(fY h H).get? b=some o :=
 PySem.W.hideAll_get _ e λhm=>by
  have q:(H b).isSome=true:=(List.mem_filter.mp hm).2;rw[n] at q;simp at q
theorem DW{h:Heap}{H:Hp}{b:Addr}{o:Obj}(e:(fY h H).get? b=some o):h.get? b=some o/\H b=none:=by
 have e':h.get? b=some o:=PySem.W.of_hideAll (trk h H) e;refine⟨e',?_⟩
 cases q:H b with
 |none=>rfl
 |some x =>
  have hm:b∈trk h H:=List.mem_filter.mpr ⟨List.mem_range.mpr (zf e'),by simp[q]⟩;have z:(fY h H).get? b=none:=PySem.W.hideAll_none (trk h H) hm;rw[z] at e;cases e
def MK(g h:Heap)(L:Addr):List (Addr×Obj):=(List.range h.objs.size).filterMap λa=>if a=L\/(g.get? a).isSome=true then none else(h.get? a).map λo=>(a,o)
def rest(g h:Heap)(L d:Addr):List (Addr×Obj):=(MK g h L).filter λp=>decide (p.1≠d)
structure Mod(K:PySem.W.Frag)(mg:Str->Option Value)(base:Heap):Prop where
 kin:K.In base
 glob:base.Ns mainGlobals mg
 blt:∃mb,base.Ns builtinsNs mb/\∀x:Str,x≠"__name__"->mb x=bootBuiltins x
 nolimit:base.NoLimit
structure Cx where
 prog:Program
 w:World
 K:PySem.W.Frag
 mg:Str->Option Value
 base:Heap
 A:Around
 N:List Str
 s₀:Shared
 H₀:Hp
 env:Env
 outer:List Env
 stack:List Env
 ex:List Addr
 fn:Str->Bool
 calm:Bool
 pn:List (Addr×Obj)
 xe:Value->Shared->Prop
def frs(l:List Env):List Addr:=l.filterMap (·.frame)
abbrev Cx.fs(X:Cx):List Addr:=frs X.outer
def Vis(sc:Scope)(x:Str):Prop:=sc.names.lookup x=some .local\/sc.names.lookup x=some .cell\/sc.names.lookup x=some .free
def Loc(sc:Scope)(x:Str):Prop:=sc.names.lookup x=some .local\/sc.names.lookup x=some .cell
def Look(env:Env)(h:Heap)(m:Str->Option Value)(x:Str)(u:Value):Prop :=
 (env.kindOf x=some .local/\m x=some u)\/((env.kindOf x=some .cell\/env.kindOf x=some .free)/\∃c,env.cells.lookup x=some c/\h.IsCell c (some u))
structure Cx.Ok(X:Cx):Prop where
 mod:Mod X.K X.mg X.base
 kind:X.env.scope.kind=.function
 glob:X.env.globals=mainGlobals
 blt:X.env.builtins=builtinsNs
 above:X.s₀.heap.objs.size<=X.env.locals
 inj:∀x y c,X.env.cells.lookup x=some c->X.env.cells.lookup y=some c->x=y
 has:∀x,(X.env.kindOf x=some .cell\/X.env.kindOf x=some .free)->∃c,X.env.cells.lookup x=some c
 cab:∀x c,X.fn x=true->X.env.cells.lookup x=some c->X.s₀.heap.objs.size<=c
 hd:X.calm=true->X.A.handled=none
 frames:X.A.frames=some X.stack
 stk:X.stack=X.outer\/(X.stack=X.env::X.outer/\X.env.frame=some X.env.locals)
 exf:∀b∈X.ex,b≠X.env.locals/\∀x c,X.env.cells.lookup x=some c->c≠b
 bs:∀b o,X.base.get? b=some o->X.s₀.heap.get? b=some o/\X.H₀ b=none
 bsz:X.base.objs.size<=X.s₀.heap.objs.size
 noex:∀b o,X.base.get? b=some o->b∉X.ex
 exfs:∀b∈X.ex,b∉X.fs
 funs:X.s₀.heap.FunFrames X.base X.outer
 frf:∀b∈X.fs,X.H₀ b=none
structure Inv(X:Cx)(pins:List (Addr×Obj))(σ:List (Option V))(H:Hp)(s:Shared):Prop where
 ok:X.Ok
 os:s.os=X.s₀.os
 bare:AllBare s.gens
 base:Un X.fs X.ex X.H₀ H X.s₀.heap s.heap
 loc:∃m,s.heap.Ns X.env.locals m/\∀(i:Nat) (x:Str) (v:V),X.N[i]?=some x->σ[i]?=some (some v)->Vis X.env.scope x->∃u,RelV v u/\Look X.env s.heap m x u
 cell:∀x c,X.env.cells.lookup x=some c->∃v,s.heap.IsCell c v
 free:H X.env.locals=none
 freeC:∀x c,X.env.cells.lookup x=some c->H c=none
 pin:∀p∈X.pn++pins,s.heap.get? p.1=some p.2/\H p.1=none/\p.1≠X.env.locals/\p.1∉X.fs/\∀v,p.2.data≠.cell v
 hok:HOk X.prog X.w H s.heap
 len:σ.length=X.N.length
section
variable {X:Cx}{pins:List (Addr×Obj)}{σ:List (Option V)}{H H':Hp}{s:Shared}{h':Heap}
theorem Cx.Ok.nofr(ok:X.Ok){b:Addr}{o:Obj}(e:X.base.get? b=some o):b∉X.fs:=λhb=>by
 have:=(ok.funs.mem hb).1
 rw[e] at this;cases this
theorem Inv.bs(I:Inv X pins σ H s):∀b o,X.base.get? b=some o->s.heap.get? b=some o/\H b=none:=λb o e =>
 ⟨I.base.keep b o (I.ok.bs b o e).1 (I.ok.bs b o e).2 (I.ok.nofr e) (I.ok.noex b o e),I.base.free b o (I.ok.bs b o e).1 (I.ok.bs b o e).2 (I.ok.noex b o e)⟩
theorem Inv.bk(I:Inv X pins σ H s):∀b o,X.base.get? b=some o->s.heap.get? b=some o:=λb o e=>(I.bs b o e).1
theorem Inv.mod(I:Inv X pins σ H s):Mod X.K X.mg X.base:=I.ok.mod
theorem Inv.kIn(I:Inv X pins σ H s):X.K.In s.heap:=I.ok.mod.kin.keeps I.bk
theorem Inv.lt(I:Inv X pins σ H s):X.env.locals<s.heap.objs.size:=let ⟨_,hn,_⟩:=I.loc;hn.lt
theorem Inv.sz(I:Inv X pins σ H s):X.s₀.heap.objs.size<=s.heap.objs.size:=zG I.ok.above (Nat.le_of_lt I.lt)
theorem Inv.nofs(I:Inv X pins σ H s){a:Addr}(h:s.heap.objs.size<=a):a∉X.fs:=λhb=>by
 obtain⟨_,o,ho,_⟩:=I.ok.funs.mem hb;exact absurd (zA (zf ho) (zG I.sz h)) (zL _)
theorem Inv.cne(I:Inv X pins σ H s):∀x c,X.env.cells.lookup x=some c->c≠X.env.locals:=λx c e z=>by
 obtain⟨v,o,ho,hd⟩:=I.cell x c e;obtain⟨m,⟨o',es,ep,ho',hd',_⟩,_⟩:=I.loc;rw[z,ho'] at ho;cases ho;rw[hd'] at hd;cases hd
theorem Inv.funs(I:Inv X pins σ H s):s.heap.FunFrames X.base X.outer:=by
 have all:∀(l:List Env),(∀b∈frs l,b∈X.fs)->X.s₀.heap.FunFrames X.base l->s.heap.FunFrames X.base l:=by
  intro l
  induction l with
  |nil=>intro _ _;trivial
  |cons env r ih =>
   intro hs hl;obtain⟨hk,⟨L,o,hf,hn,ho,hd⟩,hr⟩:=hl;have hL:L∈X.fs:=hs L (by unfold frs;rw[List.filterMap_cons,hf];exact zr)
   obtain⟨sl,e⟩:=I.base.slot L o ho (I.ok.frf L hL) hL λz=>I.ok.exfs L z hL
   exact⟨hk,⟨L,_,hf,hn,e,hd⟩,ih (λb hb=>hs b (by unfold frs;rw[List.filterMap_cons,hf];exact zw _ hb)) hr⟩
 exact all X.outer (λ_ hb=>hb) I.ok.funs
theorem Inv.stack(I:Inv X pins σ H s):s.heap.FunFrames X.base X.stack:=by
 rcases I.ok.stk with e | ⟨e,hf⟩
 ·rw[e];exact I.funs
 ·rw[e];obtain⟨m,hn,_⟩:=I.loc;refine .cons (by rw[I.ok.kind];decide) hf hn ?_ I.funs;exact Heap.get?_none_of_le (zG I.ok.bsz I.ok.above)
theorem Inv.stkSub(I:Inv X pins σ H s):∀b∈frs X.stack,b∈X.env.locals::X.fs:=λb hb=>by
 rcases I.ok.stk with e | ⟨e,hf⟩
 ·rw[e] at hb;exact zw _ hb
 ·rw[e] at hb;unfold frs at hb;rw[List.filterMap_cons,hf] at hb;exact hb
theorem Inv.stkFree(I:Inv X pins σ H s):∀b∈frs X.stack,H b=none:=λb hb=>by
 rcases zm.mp (I.stkSub b hb) with e | hb
 ·rw[e];exact I.free
 ·obtain⟨_,o,ho,_⟩:=I.ok.funs.mem hb
  exact I.base.free b o ho (I.ok.frf b hb) λz=>I.ok.exfs b z hb
theorem Inv.step{g':Array GenState}{t':Nat}{d':Drawn}{ch:List Addr}(I:Inv X pins σ H s)
  (hch:∀b∈ch,(b∈X.ex\/X.s₀.heap.objs.size<=b)/\b≠X.env.locals/\(∀x c,X.env.cells.lookup x=some c->c≠b)/\∀p∈X.pn++pins,p.1≠b)
  (keep:∀b o,b≠X.env.locals->b∉X.fs->b∉ch->s.heap.get? b=some o->H b=none->h'.get? b=some o)
  (slot:∀b o,b≠X.env.locals->b∈X.fs->b∉ch->s.heap.get? b=some o->H b=none->∃sl,h'.get? b=some {o with slots:=sl}) (free:∀b o,b∉ch->s.heap.get? b=some o->H b=none->H' b=none)
  (there:∀b o,b∉ch->s.heap.get? b=some o->∃o',h'.get? b=some o')
  (tups:∀b xs,H b=some (.tup xs)->H' b=some (.tup xs)) (frzs:∀b o u,H b=some (.frz o u)->H' b=some (.frz o u)) (tbls:∀b ps,H b=some (.tbl ps)->∃more,H' b=some (.tbl (ps++more)))
  (ns:∀m,s.heap.Ns X.env.locals m->h'.Ns X.env.locals m) (hok:HOk X.prog X.w H' h') (hg:AllBare g'):
  Inv X pins σ H' {s with heap:=h',gens:=g',drawn:=d',toks:=t'}:=by
 have neL:∀b o,X.s₀.heap.get? b=some o->b≠X.env.locals:=λb o e=>zB (zA (zf e) I.ok.above)
 have neC:∀b o,X.s₀.heap.get? b=some o->b∉X.ex->b∉ch:=λb o e hx hb=>by
  rcases(hch b hb).1 with z | z
  ·exact hx z
  ·exact absurd (zA (zf e) z) (zL _)
 have cellK:∀x c,X.env.cells.lookup x=some c->∀v,s.heap.IsCell c v->h'.IsCell c v:=λx c e v ⟨o,ho,hd⟩=>by
  have nch:c∉ch:=λz=>(hch c z).2.2.1 x c e rfl
  by_cases hc:c∈X.fs
  ·obtain⟨sl,q⟩:=slot c o (I.cne x c e) hc nch ho (I.freeC x c e);exact⟨_,q,hd⟩
  ·exact⟨o,keep c o (I.cne x c e) hc nch ho (I.freeC x c e),hd⟩
 refine⟨I.ok,I.os,hg,⟨λb o e n hb hx=>?_,λb o e n hb hx=>?_,λb o e n hx=>?_,λb o e hx=>?_,λb xs e=>tups b xs (I.base.tups b xs e),λb o xs e=>frzs b o xs (I.base.frzs b o xs e),λb ps e=>?_⟩,?_,λx c e=>?_,?_,λx c e=>?_,λp hp=>?_,hok,I.len⟩
 ·exact keep b o (neL b o e) hb (neC b o e hx) (I.base.keep b o e n hb hx) (I.base.free b o e n hx)
 ·obtain⟨sl,e1⟩:=I.base.slot b o e n hb hx;obtain⟨sl',e2⟩:=slot b _ (neL b o e) hb (neC b o e hx) e1 (I.base.free b o e n hx);exact⟨sl',e2⟩
 ·obtain⟨o',e1⟩:=I.base.there b o e hx;exact free b o' (neC b o e hx) e1 (I.base.free b o e n hx)
 ·obtain⟨o',e1⟩:=I.base.there b o e hx;exact there b o' (neC b o e hx) e1
 ·obtain⟨m1,e1⟩:=I.base.tbls b ps e;obtain⟨m2,e2⟩:=tbls b _ e1;exact⟨m1++m2,by rw[e2,Array.append_assoc]⟩
 ·obtain⟨m,hn,hl⟩:=I.loc;refine⟨m,ns m hn,λi x v e1 e2 e3=>?_⟩;obtain⟨u,r,l⟩:=hl i x v e1 e2 e3;refine⟨u,r,?_⟩
  rcases l with l | ⟨k,c,e,z⟩
  ·exact .inl l
  ·exact .inr ⟨k,c,e,cellK x c e _ z⟩
 ·obtain⟨v,z⟩:=I.cell x c e;exact⟨v,cellK x c e v z⟩
 ·obtain⟨m,⟨o,_,_,ho,_⟩,_⟩:=I.loc;exact free _ o (λz=>(hch _ z).2.1 rfl) ho I.free
 ·obtain⟨v,o,ho,hd⟩:=I.cell x c e;exact free c o (λz=>(hch c z).2.2.1 x c e rfl) ho (I.freeC x c e)
 ·obtain⟨e,n,ne,nf,d⟩:=I.pin p hp
  have nch:p.1∉ch:=λz=>(hch p.1 z).2.2.2 p hp rfl
  exact⟨keep p.1 p.2 ne nf nch e n,free p.1 p.2 nch e n,ne,nf,d⟩
theorem Inv.un{t':Nat}(I:Inv X pins σ H s)(u:Un X.fs [] H H' s.heap h')(hok:HOk X.prog X.w H' h'):Inv X pins σ H' {s with heap:=h',toks:=t'}:=by
 obtain⟨m,⟨o,es,ep,ho,r⟩,_⟩:=id I.loc;obtain⟨sl,hL⟩:=u.any ho I.free (by simp)
 exact I.step (g':=s.gens) (d':=s.drawn) (ch:=[]) (λ_ z=>nomatch z) (λb o _ hb _ e n=>u.keep b o e n hb (by simp)) (λb o _ hb _ e n=>u.slot b o e n hb (by simp)) (λb o _ e n=>u.free b o e n (by simp)) (λb o _ e=>u.there b o e (by simp)) u.tups u.frzs u.tbls (λm' hm=>by
  obtain⟨o',es',ep',ho',r'⟩:=hm;rw[ho] at ho';cases ho'
  exact⟨_,es',ep',hL,r'⟩) hok I.bare
theorem Inv.call{g':Array GenState}{t':Nat}{d':Drawn}{ch:List Addr}(I:Inv X pins σ H s)(u:Un (frs X.stack) ch H H' s.heap h')(hok:HOk X.prog X.w H' h')(hg:AllBare g')
  (hch:∀b∈ch,(b∈X.ex\/X.s₀.heap.objs.size<=b)/\b≠X.env.locals/\(∀x c,X.env.cells.lookup x=some c->c≠b)/\∀p∈X.pn++pins,p.1≠b):
  Inv X pins σ H' {s with heap:=h',gens:=g',drawn:=d',toks:=t'}:=by
 obtain⟨m,⟨o,es,ep,ho,r⟩,_⟩:=id I.loc
 obtain⟨sl,hL⟩:=u.any ho I.free λz=>(hch _ z).2.1 rfl
 exact I.step (ch:=ch) hch (λb o hL hb hc e n=>u.keep b o e n (λz=>(zm.mp (I.stkSub b z)).elim hL hb) hc) (λb o _ _ hc e n=>u.any e n hc) (λb o hc e n=>u.free b o e n hc) (λb o hc e=>u.there b o e hc) u.tups u.frzs u.tbls (λm' hm=>by
  obtain⟨o',es',ep',ho',r'⟩:=hm;rw[ho] at ho';cases ho'
  exact⟨_,es',ep',hL,r'⟩) hok hg
theorem Inv.turned{t':Nat}{it:Addr}(I:Inv X pins σ H s)(k:∀b o,b≠it->s.heap.get? b=some o->h'.get? b=some o)(hn:H it=none)(hL:it≠X.env.locals)
  (h1:it∈X.ex\/X.s₀.heap.objs.size<=it) (h2:∀x c,X.env.cells.lookup x=some c->c≠it) (h3:∀p∈X.pn++pins,p.1≠it):Inv X pins σ H {s with heap:=h',toks:=t'}:=by
 have nit:∀b u,H b=some u->b≠it:=λb u e z=>by rw[z,hn] at e;cases e
 refine I.step (g':=s.gens) (d':=s.drawn) (ch:=[it]) (λb hb=>?_) (λb o _ _ hc e _=>k b o (λz=>hc (by simp[z])) e) (λb o _ _ hc e _=>⟨o.slots,k b o (λz=>hc (by simp[z])) e⟩) (λ_ _ _ _ n=>n)
  (λb o hc e=>⟨o,k b o (λz=>hc (by simp[z])) e⟩) (λ_ _ e=>e) (λ_ _ _ e=>e) (λb ps e=>⟨#[],by rw[e];simp⟩) (λm hm=>?_) (λb u e=>?_) I.bare
 ·have e:b=it:=by simpa using hb
  subst e;exact⟨h1,hL,h2,h3⟩
 ·obtain⟨o,es,ep,ho,r⟩:=hm;exact⟨o,es,ep,k _ o (Ne.symm hL) ho,r⟩
 ·refine(I.hok b u e).stay (λc v hc q=>k c v ?_ q) (λ_ q=>q) λ_ _ q=>q
  rcases hc with z | z
  ·rw[z];exact nit b u e
  ·exact nit c _ z
theorem Inv.tok(I:Inv X pins σ H s)(t:Nat):Inv X pins σ H {s with toks:=t}:=I.un (h':=s.heap) (t':=t) Un.refl I.hok
theorem Inv.kept{t':Nat}(I:Inv X pins σ H s)(k:∀b u,s.heap.get? b=some u->h'.get? b=some u):Inv X pins σ H {s with heap:=h',toks:=t'}:=I.un (Un.kept k) (I.hok.kept k)
theorem Inv.laid{a:Addr}{o:HO}{t':Nat}(I:Inv X pins σ H s)(k:∀b u,s.heap.get? b=some u->h'.get? b=some u)(hp:s.heap.objs.size<=a)(new:cG X.prog X.w (upd H a o) h' a o):
  Inv X pins σ (upd H a o) {s with heap:=h',toks:=t'}:=I.un (Un.laid k hp (I.hok.fresh hp)) (I.hok.laid k hp new)
theorem Inv.write{x e:Addr}{o:HO}{t':Nat}(I:Inv X pins σ H s)(mu:Mut (H x))(he:e=x\/H e=some (.own x))(k:∀b u,b≠e->s.heap.get? b=some u->h'.get? b=some u)(heo:∃u,h'.get? e=some u)
  (new:cG X.prog X.w (upd H x o) h' x o):Inv X pins σ (upd H x o) {s with heap:=h',toks:=t'}:=I.un (Un.write mu he k heo) (I.hok.write mu he k heo new)
theorem Inv.pins_of{pins':List (Addr×Obj)}(I:Inv X pins σ H s)(h:∀p∈pins',s.heap.get? p.1=some p.2/\H p.1=none/\p.1≠X.env.locals/\p.1∉X.fs/\∀v,p.2.data≠.cell v):Inv X pins' σ H s :=
 ⟨I.ok,I.os,I.bare,I.base,I.loc,I.cell,I.free,I.freeC,λp hp=>(zF.mp hp).elim (λz=>I.pin p (jf _ z)) (h p),I.hok,I.len⟩
theorem DX{N:List Str}(hN:N.Nodup){i j:Nat}{x:Str}(a:N[i]?=some x)(b:N[j]?=some x):i=j:=by
 obtain⟨h1,e1⟩:=zh.mp a;obtain⟨h2,e2⟩:=zh.mp b;exact(List.getElem_inj hN).mp (e1.trans e2.symm)
theorem MN{M:Model}{A:Around}{E:Value->Shared->Prop}{i:Nat}{x:Str}{v:V}{u:Value}{Q:Unit->Shared->Prop}(I:Inv X pins σ H s)(hN:X.N.Nodup)(hi:X.N[i]?=some x)(hx:Loc X.env.scope x)(r:RelV v u)
  (h:∀s',Inv X pins (σ.set i (some v)) H s'->(∃a,Heap.SameBut a s.heap s'.heap/\(a=X.env.locals\/X.env.cells.lookup x=some a))->Q () s') (hf:X.fn x=true\/X.env.scope.names.lookup x=some .local:=by first | exact .inl rfl | exact .inr rfl | assumption):wpAny M A (storeName X.env x u) Q E s:=by
 obtain⟨m,hn,hl⟩:=id I.loc
 have hcls:(X.env.scope.kind == .class || (X.env.scope.kind == .module&&X.env.locals != X.env.globals))=false:=by rw[I.ok.kind];rfl
 have hiσ:i<σ.length:=by rw[I.len];exact(zh.mp hi).1
 have cne:=I.cne
 have tracked:∀{a:Addr}{h':Heap},(∃o,s.heap.get? a=some o/\H a=none)->Heap.SameBut a s.heap h'->HOk X.prog X.w H h':=λ{a h'} ha hs b ob e=>by
  obtain⟨_,_,hfree⟩:=ha
  refine(I.hok b ob e).stay (λc w' hc q=>(hs.2 c ?_).trans q) (λ_ q=>q) λ_ _ q=>q
  rintro rfl
  rcases hc with rfl | hc
  ·rw[hfree] at e;cases e
  ·rw[hfree] at hc;cases hc
 rcases hx with hk | hk
 ·refine wpAny_storeName_local hk hn (λh' hn' hs=>?_) hcls;obtain⟨oL,_,_,hoL,_⟩:=id hn;refine h _ ⟨I.ok,I.os,I.bare,⟨λb o e n hb hx=>?_,λb o e n hb hx=>?_,I.base.free,λb o e hx=>?_,I.base.tups,I.base.frzs,I.base.tbls⟩,⟨_,hn',λj y v' e1 e2 e3=>?_⟩,λy c e=>?_,I.free,I.freeC,λp hp=>?_,tracked ⟨oL,hoL,I.free⟩ hs,by simpa using I.len⟩ ⟨_,hs,.inl rfl⟩
  ·exact(hs.2 b (zB (zA (zf e) I.ok.above))).trans (I.base.keep b o e n hb hx)
  ·obtain⟨sl,e1⟩:=I.base.slot b o e n hb hx;exact⟨sl,(hs.2 b (zB (zA (zf e) I.ok.above))).trans e1⟩
  ·obtain⟨o',e1⟩:=I.base.there b o e hx;exact⟨o',(hs.2 b (zB (zA (zf e) I.ok.above))).trans e1⟩
  ·by_cases hj:j=i
   ·subst hj;rw[hi] at e1;cases e1;rw[zO hiσ] at e2;cases e2;exact⟨u,r,.inl ⟨hk,by simp⟩⟩
   ·rw[zt (Ne.symm hj)] at e2;obtain⟨u',r',q⟩:=hl j y v' e1 e2 e3;refine⟨u',r',?_⟩
    rcases q with⟨k,e⟩ | ⟨k,c,e,z⟩
    ·refine .inl ⟨k,?_⟩
     have:y≠x:=λe=>hj (DX hN e1 (e ▸ hi))
     simp[this,e]
    ·exact .inr ⟨k,c,e,z.sameBut hs (cne y c e)⟩
  ·obtain⟨w',z⟩:=I.cell y c e;exact⟨w',z.sameBut hs (cne y c e)⟩
  ·obtain⟨e,n,ne,nf,d⟩:=I.pin p hp;exact⟨(hs.2 p.1 ne).trans e,n,ne,nf,d⟩
 ·have hfn:X.fn x=true:=by
   rcases hf with z | z
   ·exact z
   ·rw[z] at hk;cases hk
  obtain⟨c,hc⟩:=I.ok.has x (.inl hk);obtain⟨w',z⟩:=I.cell x c hc;refine wpAny_storeName_cell I.ok.kind hk hc z (λh' hc' hs=>?_);obtain⟨oc,hoc,hocd⟩:=id z;refine h {s with heap:=h'} ⟨I.ok,I.os,I.bare,⟨λb o e n hb hx=>?_,λb o e n hb hx=>?_,I.base.free,λb o e hx=>?_,I.base.tups,I.base.frzs,I.base.tbls⟩,⟨m,hn.sameBut hs (Ne.symm (cne x c hc)),λj y v' e1 e2 e3=>?_⟩,λy c' e=>?_,I.free,I.freeC,λp hp=>?_,tracked ⟨oc,hoc,I.freeC x c hc⟩ hs,by simpa using I.len⟩ ⟨c,hs,.inr hc⟩
  ·exact(hs.2 b (zB (zA (zf e) (I.ok.cab x c hfn hc)))).trans (I.base.keep b o e n hb hx)
  ·obtain⟨sl,e1⟩:=I.base.slot b o e n hb hx;exact⟨sl,(hs.2 b (zB (zA (zf e) (I.ok.cab x c hfn hc)))).trans e1⟩
  ·obtain⟨o',e1⟩:=I.base.there b o e hx;exact⟨o',(hs.2 b (zB (zA (zf e) (I.ok.cab x c hfn hc)))).trans e1⟩
  ·by_cases hj:j=i
   ·subst hj;rw[hi] at e1;cases e1;rw[zO hiσ] at e2;cases e2;exact⟨u,r,.inr ⟨.inl hk,c,hc,hc'⟩⟩
   ·rw[zt (Ne.symm hj)] at e2;obtain⟨u',r',q⟩:=hl j y v' e1 e2 e3;refine⟨u',r',?_⟩
    rcases q with q | ⟨k,c',e,z'⟩
    ·exact .inl q
    ·refine .inr ⟨k,c',e,z'.sameBut hs ?_⟩;rintro rfl;exact hj (DX hN e1 (I.ok.inj _ _ _ e hc ▸ hi))
  ·by_cases hcc:c'=c
   ·subst hcc;exact⟨_,hc'⟩
   ·obtain⟨w2,z2⟩:=I.cell y c' e;exact⟨w2,z2.sameBut hs hcc⟩
  ·obtain⟨e,n,ne,nf,d⟩:=I.pin p hp;refine⟨(hs.2 p.1 ?_).trans e,n,ne,nf,d⟩;intro q;rw[q,hoc] at e;have q':oc=p.2:=zx e;exact d w' (by rw[<-q'];exact hocd)
theorem wD{M:Model}{A:Around}{E:Value->Shared->Prop}{i:Nat}{x:Str}{v:V}{u:Value}{Q:Unit->Shared->Prop}(I:Inv X pins σ H s)(hN:X.N.Nodup)(hi:X.N[i]?=some x)(hx:Loc X.env.scope x)(r:RelV v u)
  (h:∀s',Inv X pins (σ.set i (some v)) H s'->Q () s') (hf:X.fn x=true\/X.env.scope.names.lookup x=some .local:=by first | exact .inl rfl | exact .inr rfl | assumption):wpAny M A (storeName X.env x u) Q E s :=
 MN I hN hi hx r (λs' I' _=>h s' I') hf
theorem Inv.call'{s':Shared}{ch:List Addr}(I:Inv X pins σ H s)(ho:s'.os=s.os)(u:Un (frs X.stack) ch H H' s.heap s'.heap)(hok:HOk X.prog X.w H' s'.heap)(hg:AllBare s'.gens)
  (hch:∀b∈ch,(b∈X.ex\/X.s₀.heap.objs.size<=b)/\b≠X.env.locals/\(∀x c,X.env.cells.lookup x=some c->c≠b)/\∀p∈X.pn++pins,p.1≠b):Inv X pins σ H' s':=by
 obtain⟨h',g',d',t',o'⟩:=s';have e:o'=s.os:=ho;subst e;exact I.call (g':=g') (t':=t') (d':=d') u hok hg hch
end
abbrev XK:=Value->Option Addr->Hp->Prop
abbrev St:=List (Option V)
abbrev VK:=V->Hp->Prop
abbrev TE:=St->Hp->VK->Prop
abbrev TT:=St->Hp->(Bool->Hp->Prop)->Prop
abbrev TA:=St->Hp->(List V->Hp->Prop)->Prop
structure Ends where
 nx:St->Hp->Prop
 rt:VK
 bk:St->Hp->Prop:=λ_ _=>False
 ct:St->Hp->Prop:=λ_ _=>False
abbrev TS:=Ends->St->Hp->Prop
def EP(X:Cx)(pins:List (Addr×Obj))(σ:St)(Q:VK)(u:Value)(s':Shared):Prop:=∃v H',Inv X pins σ H' s'/\RelV v u/\Q v H'
def TP(X:Cx)(pins:List (Addr×Obj))(σ:St)(Q:Bool->Hp->Prop)(b:Bool)(s':Shared):Prop:=∃H',Inv X pins σ H' s'/\Q b H'
def AP(X:Cx)(pins:List (Addr×Obj))(σ:St)(Q:List V->Hp->Prop)(us:List Value)(s':Shared):Prop:=∃vs H',Inv X pins σ H' s'/\aR vs us/\Q vs H'
def SP(X:Cx)(pins:List (Addr×Obj))(D:Ends)(f:Flow)(s':Shared):Prop :=
 match f with
 | .next=>∃σ' H',Inv X pins σ' H' s'/\D.nx σ' H'
 | .brk=>∃σ' H',Inv X pins σ' H' s'/\D.bk σ' H'
 | .cont=>∃σ' H',Inv X pins σ' H' s'/\D.ct σ' H'
 | .ret u=>∃v σ' H',Inv X pins σ' H' s'/\RelV v u/\D.rt v H'
def PE(X:Cx)(e:Expr)(t:TE):Prop :=
 ∀(pins:List (Addr×Obj)) (s:Shared) (σ:St) (H:Hp) (Q:VK),Inv X pins σ H s->t σ H Q->wpAny (model X.prog X.w) X.A (eval e X.env) (EP X pins σ Q) X.xe s
def PT(X:Cx)(e:Expr)(t:TT):Prop :=
 ∀(pins:List (Addr×Obj)) (s:Shared) (σ:St) (H:Hp) (Q:Bool->Hp->Prop),Inv X pins σ H s->t σ H Q->wpAny (model X.prog X.w) X.A (isTrue e X.env (eval e X.env)) (TP X pins σ Q) X.xe s
def PW(X:Cx)(e:Expr)(t:TT):Prop :=
 ∀(whole:Sem Value) (pins:List (Addr×Obj)) (s:Shared) (σ:St) (H:Hp) (Q:Bool->Hp->Prop),Inv X pins σ H s->t σ H Q->wpAny (model X.prog X.w) X.A (isTrue e X.env whole) (TP X pins σ Q) X.xe s
theorem PW.pt{X:Cx}{e:Expr}{t:TT}(h:PW X e t):PT X e t:=h _
def PA(X:Cx)(es:List Expr)(t:TA):Prop :=
 ∀(pos:Pos) (pins:List (Addr×Obj)) (s:Shared) (σ:St) (H:Hp) (Q:List V->Hp->Prop),Inv X pins σ H s->t σ H Q->wpAny (model X.prog X.w) X.A (spliced (backTo pos (starEach es X.env))) (AP X pins σ Q) X.xe s
def PS(X:Cx)(st:Stmt)(t:TS):Prop :=
 ∀(pins:List (Addr×Obj)) (s:Shared) (σ:St) (H:Hp) (D:Ends),Inv X pins σ H s->t D σ H->wpAny (model X.prog X.w) X.A (exec st X.env) (SP X pins D) X.xe s
def PSs(X:Cx)(st:List Stmt)(t:TS):Prop :=
 ∀(pins:List (Addr×Obj)) (s:Shared) (σ:St) (H:Hp) (D:Ends),Inv X pins σ H s->t D σ H->wpAny (model X.prog X.w) X.A (execs st X.env) (SP X pins D) X.xe s
theorem thn{α:Type}{t:Sem α}{Q Q':α->Shared->Prop}{M:Model}{A:Around}{E:Value->Shared->Prop}{s:Shared}(h:wpAny M A t Q E s)(hQ:∀a s,Q a s->Q' a s):wpAny M A t Q' E s:=zR h hQ λ_ _ x=>x
section
variable {X:Cx}
def MP(i:Nat):TE:=λσ H Q=>∃v,σ[i]?=some (some v)/\Q v H
def tC(v:V):TE:=λ_ H Q=>Q v H
theorem lR{i:Nat}{x:Str}{pos:Pos}(hN:X.N[i]?=some x)(hv:Vis X.env.scope x)(hd:(x == ("__debug__":Str))=false:=by decide)(hcd:(x == ("__classdict__":Str))=false:=by decide):PE X (.Name x pos) (MP i):=by
 intro pins s σ H Q I h;obtain⟨v,e,h⟩:=h;obtain⟨m,hn,hl⟩:=I.loc;obtain⟨u,r,l⟩:=hl i x v hN e hv;have fin:EP X pins σ Q u s:=⟨v,H,I,r,h⟩
 rcases l with⟨hk,hm⟩ | ⟨hk,c,hc,hcell⟩
 ·exact wpAny_Name (wpAny_loadName_local I.ok.kind hk hn hm fin) hd
 ·rcases hk with hk | hk
  ·exact wpAny_Name (wpAny_loadName_cell I.ok.kind hk hc hcell fin) hd
  ·exact wpAny_Name (wpAny_loadName_free I.ok.kind hk hc hcell fin hcd) hd
theorem MT{i j pos}:PE X (.Constant (.int i) j pos) (tC (.int i)):=λ_ _ _ H _ I h=>wpAny_Constant_int ⟨.int i,H,I.tok _,⟨_,rfl⟩,h⟩
theorem M4{b j pos}:PE X (.Constant (.bool b) j pos) (tC (.bl b)):=λ_ _ _ H _ I h=>Constant_bool ⟨.bl b,H,I,rfl,h⟩
theorem M5{j pos}:PE X (.Constant .none j pos) (tC .non):=λ_ _ _ H _ I h=>Constant_none ⟨.non,H,I,rfl,h⟩
theorem M6{x j pos}:PE X (.Constant (.str x) j pos) (tC (.str x)):=λ_ _ _ H _ I h=>Calls.Constant_str ⟨.str x,H,I.tok _,⟨_,rfl⟩,h⟩
def Gl(X:Cx)(x:Str):Prop:=X.env.kindOf x=some .globalImplicit
theorem wF{E:Value->Shared->Prop}{pins:List (Addr×Obj)}{s:Shared}{σ:St}{H:Hp}{x:Str}{u:Value}{pos:Pos}{Q:Value->Shared->Prop}(I:Inv X pins σ H s)(hg:Gl X x)(hm:X.mg x=some u)(h:Q u s)
  (hd:(x == ("__debug__":Str))=false:=by decide):wpAny (model X.prog X.w) X.A (eval (.Name x pos) X.env) Q E s :=
 Calls.Name_function_global I.ok.kind hg (Calls.loadGlobal_global (by rw[I.ok.glob];exact I.mod.glob.keeps I.bk) hm h) hd
theorem gW{E:Value->Shared->Prop}{pins:List (Addr×Obj)}{s:Shared}{σ:St}{H:Hp}{x:Str}{u:Value}{pos:Pos}{Q:Value->Shared->Prop}(I:Inv X pins σ H s)(hg:Gl X x)(hm:X.mg x=none)(hv:bootBuiltins x=some u)(h:Q u s)
  (hn:x≠"__name__":=by decide) (hd:(x == ("__debug__":Str))=false:=by decide):wpAny (model X.prog X.w) X.A (eval (.Name x pos) X.env) Q E s:=by
 obtain⟨mb,h1,h2⟩:=I.mod.blt;exact Calls.Name_function_global I.ok.kind hg (Calls.loadGlobal_builtin (by rw[I.ok.glob];exact I.mod.glob.keeps I.bk) hm (by rw[I.ok.blt];exact h1.keeps I.bk) ((h2 x hn).trans hv) h) hd
theorem M7{x:Str}{v:V}{u:Value}{pos:Pos}(hg:Gl X x)(hm:X.mg x=some u)(r:RelV v u)(hd:(x == ("__debug__":Str))=false:=by decide):PE X (.Name x pos) (tC v):=
 λ_ _ _ H _ I h=>wF I hg hm ⟨v,H,I,r,h⟩ hd
theorem M8{x:Str}{v:V}{u:Value}{pos:Pos}(hg:Gl X x)(hm:X.mg x=none)(hv:bootBuiltins x=some u)(r:RelV v u)(hn:x≠"__name__":=by decide)(hd:(x == ("__debug__":Str))=false:=by decide):PE X (.Name x pos) (tC v):=
 λ_ _ _ H _ I h=>gW I hg hm hv ⟨v,H,I,r,h⟩ hn hd
variable {a b:Expr}{ta tb:TE}{pos:Pos}
def PC(X:Cx)(op:CmpOp)(a b:Expr)(t:TE):Prop :=
 ∀(pins:List (Addr×Obj)) (s:Shared) (σ:St) (H:Hp) (Q:VK),Inv X pins σ H s->t σ H Q ->
  wpAny (model X.prog X.w) X.A (eval a X.env) (λv s₁=>wpAny (model X.prog X.w) X.A (eval b X.env) (λu s₂=>wpAny (model X.prog X.w) X.A (compareOp op v u) (EP X pins σ Q) X.xe s₂) X.xe s₁) X.xe s
theorem M9(b:Expr){op:CmpOp}(h:op≠.In)(h2:op≠.NotIn):behindInMarks op b=false:=by
 have e1:(op == CmpOp.In)=false:=by cases op<;>first | rfl | exact absurd rfl h
 have e2:(op == CmpOp.NotIn)=false:=by cases op<;>first | rfl | exact absurd rfl h2
 cases b<;>simp[behindInMarks,e1,e2]
def DY(ta:TE):TE:=λσ H Q=>ta σ H λx H1=>Q (.bl (decide (x=.non))) H1
def Ea(ta:TE):TE:=λσ H Q=>ta σ H λx H1=>Q (.bl (!decide (x=.non))) H1
theorem RelV.none_iff{x:V}{v:Value}(r:RelV x v):(v == Value.none)=decide (x=.non):=by
 cases x with
 |non=>cases r;rfl
 |bl _=>cases r;rfl
 |int _=>obtain⟨t,rfl⟩:=r;rfl
 |str _=>obtain⟨t,rfl⟩:=r;rfl
 |byt _=>obtain⟨t,rfl⟩:=r;rfl
 |flt _=>obtain⟨t,rfl⟩:=r;rfl
 |ref _=>cases r;rfl
 |ty _=>cases r;rfl
theorem Nb{j pos'}(ha:PE X a ta):PC X .Is a (.Constant .none j pos') (DY ta):=by
 intro pins s σ H Q I h
 refine thn (ha pins s σ H _ I h) λv s1 ⟨x,H1,I1,r1,q1⟩=>?_
 exact Constant_none (is_none_gen ⟨.bl _,H1,I1,by rw[r1.none_iff];rfl,q1⟩)
theorem Nf{j pos'}(ha:PE X a ta):PC X .IsNot a (.Constant .none j pos') (Ea ta):=by
 intro pins s σ H Q I h
 refine thn (ha pins s σ H _ I h) λv s1 ⟨x,H1,I1,r1,q1⟩=>?_
 exact Constant_none (isnot_none_gen ⟨.bl _,H1,I1,by rw[r1.none_iff];rfl,q1⟩)
def tB(t:TE):TT:=λσ H Q=>t σ H λx H1=>∃c,x=.bl c/\Q c H1
theorem Eb{op:CmpOp}{t:TE}(h:PC X op a b t)(h1:behindInMarks op b=false:=by first | exact M9 _ (by decide) (by decide) | rfl):PT X (.Compare a [op] [b] pos) (tB t):=by
 intro pins s σ H Q I hw;refine wpAny_isTrue_Compare1 (thn (h pins s σ H _ I hw) λv s1 h1=>thn h1 λu s2 h2=>thn h2 λc s3 ⟨x,H1,I1,r1,q1⟩=>?_) h1;obtain⟨d,rfl,q⟩:=q1;cases r1;exact wpAny_truthy_bool ⟨H1,I1,q⟩
variable {tA tB':TT}{rest:List Expr}
def Ec(t u:TT):TT:=λσ H Q=>t σ H λc H1=>if c=true then u σ H1 Q else Q false H1
def tOr(t u:TT):TT:=λσ H Q=>t σ H λc H1=>if c=true then Q true H1 else u σ H1 Q
def Ng(t:TT):TT:=λσ H Q=>t σ H λc H1=>Q (!c) H1
theorem Nh(ha:PT X a tA):PW X (.BoolOp .And [a] pos) tA:=by
 intro wh pins s σ H Q I h;refine isTrue_and (thn (ha pins s σ H Q I h) λc s1 e=>?_)
 cases c with
 |true=>exact isTrue_and_nil e
 |false=>exact e
theorem Ni(ha:PT X a tA):PW X (.BoolOp .Or [a] pos) tA:=by
 intro wh pins s σ H Q I h;refine isTrue_or (thn (ha pins s σ H Q I h) λc s1 e=>?_)
 cases c with
 |false=>exact isTrue_or_nil e
 |true=>exact e
theorem Nj(ha:PT X a tA)(hb:PW X (.BoolOp .And (b::rest) pos) tB'):PW X (.BoolOp .And (a::b::rest) pos) (Ec tA tB'):=by
 intro wh pins s σ H Q I h;refine isTrue_and (thn (ha pins s σ H _ I h) λc s1 ⟨H1,I1,q1⟩=>?_)
 cases c with
 |true=>exact hb wh pins s1 σ H1 Q I1 q1
 |false=>exact⟨H1,I1,q1⟩
theorem Nk(ha:PT X a tA)(hb:PW X (.BoolOp .Or (b::rest) pos) tB'):PW X (.BoolOp .Or (a::b::rest) pos) (tOr tA tB'):=by
 intro wh pins s σ H Q I h;refine isTrue_or (thn (ha pins s σ H _ I h) λc s1 ⟨H1,I1,q1⟩=>?_)
 cases c with
 |true=>exact⟨H1,I1,q1⟩
 |false=>exact hb wh pins s1 σ H1 Q I1 q1
theorem Nm(ha:PT X a tA):PT X (.UnaryOp .Not a pos) (Ng tA):=by
 intro pins s σ H Q I h;exact isTrue_not (ha pins s σ H (λc H1=>Q (!c) H1) I h)
def Np(ta tb:TE):TE:=λσ H Q=>ta σ H λx H1=>∃c,x=.bl c/\if c=true then tb σ H1 Q else Q (.bl false) H1
def Nq(ta:TE):TE:=λσ H Q=>ta σ H λx H1=>∃c,x=.bl c/\Q (.bl (!c)) H1
theorem Nr{op}{t:TE}(h:PE X a t):PE X (.BoolOp op [a] pos) t:=λpins s σ H Q I hw=>BoolOp_one (h pins s σ H Q I hw)
theorem Nt(ha:PE X a ta)(hb:PE X (.BoolOp .And (b::rest) pos) tb):PE X (.BoolOp .And (a::b::rest) pos) (Np ta tb):=by
 intro pins s σ H Q I h;refine BoolOp_and (thn (ha pins s σ H _ I h) λv s1 ⟨x,H1,I1,r1,q1⟩=>?_);obtain⟨c,rfl,q1⟩:=q1;cases r1;refine wpAny_truthy_bool ?_
 cases c with
 |true=>exact hb pins s1 σ H1 Q I1 q1
 |false=>exact⟨.bl false,H1,I1,rfl,q1⟩
theorem Nu(ha:PE X a ta):PE X (.UnaryOp .Not a pos) (Nq ta):=by
 intro pins s σ H Q I h;refine UnaryOp_ (thn (ha pins s σ H _ I h) λv s1 ⟨x,H1,I1,r1,q1⟩=>?_);obtain⟨c,rfl,q1⟩:=q1;cases r1;exact not_of (wpAny_truthy_bool ⟨.bl (!c),H1,I1,rfl,q1⟩)
def tIf(t:TT)(ta tb:TE):TE:=λσ H Q=>t σ H λc H1=>if c=true then ta σ H1 Q else tb σ H1 Q
theorem Nv{c:Expr}(hc:PT X c tA)(ha:PE X a ta)(hb:PE X b tb):PE X (.IfExp c a b pos) (tIf tA ta tb):=by
 intro pins s σ H Q I h;refine wpAny_IfExp (thn (hc pins s σ H _ I h) λd s1 ⟨H1,I1,q1⟩=>?_)
 cases d with
 |true=>exact ha pins s1 σ H1 Q I1 q1
 |false=>exact hb pins s1 σ H1 Q I1 q1
end
def SqL(K:PySem.W.Frag)(H:Hp)(a:Addr)(xs:List V):Prop :=
 Rd H a (.lst xs) \/
  ∃(o:Obj) (its:Array Value) (n:Nat),K.lookup a=some o/\o.cls=.type "list"/\o.dict=none/\o.data=.seq its n/\its.size<=sizeLine/\aR xs its.toList
def SqT(K:PySem.W.Frag)(H:Hp)(a:Addr)(xs:List V):Prop :=
 Rd H a (.tup xs) \/
  ∃(o:Obj) (its:Array Value) (n:Nat),K.lookup a=some o/\o.cls=.type "tuple"/\o.data=.seq its n/\its.size<=sizeLine/\aR xs its.toList
def Nx:Value->Option V
 | .none=>some .non
 | .bool b=>some (.bl b)
 | .int i _=>some (.int i)
 | .str x _=>some (.str x)
 | .bytes b _=>some (.byt b)
 | .float b _=>some (.flt b)
 | .ref a=>some (.ref a)
 | .type n=>some (.ty n)
 | _=>none
theorem RelV.abs{x:V}{u:Value}(r:RelV x u):Nx u=some x:=by
 cases x with
 |non=>cases r;rfl
 |bl _=>cases r;rfl
 |int _=>obtain⟨t,rfl⟩:=r;rfl
 |str _=>obtain⟨t,rfl⟩:=r;rfl
 |byt _=>obtain⟨t,rfl⟩:=r;rfl
 |flt _=>obtain⟨t,rfl⟩:=r;rfl
 |ref _=>cases r;rfl
 |ty _=>cases r;rfl
theorem RelV.inj{x y:V}{u:Value}(r:RelV x u)(q:RelV y u):x=y:=zx (r.abs.symm.trans q.abs)
theorem aR.inj:∀{xs ys:List V}{us:List Value},aR xs us->aR ys us->xs=ys
 | _,_,_,.nil,.nil=>rfl
 | _,_,_,.cons r t,.cons r' t'=>by rw[r.inj r',aR.inj t t']
section
variable {X:Cx}{pins:List (Addr×Obj)}{σ:St}{H:Hp}{s:Shared}{a:Addr}{xs ys:List V}
theorem Inv.list(I:Inv X pins σ H s)(h:SqL X.K H a xs):∃its:List Value,aR xs its/\PlainL s.heap a its.toArray/\xs.length<=sizeLine:=by
 rcases h with h | ⟨o,its,n,hk,hc,hd,hs,hz,r⟩
 ·obtain⟨z,its,n,r,e⟩:=h.ok I.hok;exact⟨its,r,⟨_,n,e,rfl,rfl,rfl⟩,z⟩
 ·refine⟨its.toList,r,⟨o,n,I.kIn a o hk,hc,hd,by simpa using hs⟩,?_⟩;have e:=r.length;simp only[Array.length_toList] at e;omega
theorem Inv.tuple(I:Inv X pins σ H s)(h:SqT X.K H a xs):∃its:List Value,aR xs its/\IsTup s.heap a its.toArray/\xs.length<=sizeLine:=by
 rcases h with h | ⟨o,its,n,hk,hc,hs,hz,r⟩
 ·obtain⟨z,its,r,p⟩:=h.ok I.hok;exact⟨its,r,p,z⟩
 ·refine⟨its.toList,r,⟨o,I.kIn a o hk,hc,n,by simpa using hs⟩,?_⟩;have e:=r.length;simp only[Array.length_toList] at e;omega
theorem Inv.list_inj(I:Inv X pins σ H s)(h:SqL X.K H a xs)(h':SqL X.K H a ys):xs=ys:=by
 obtain⟨its,r,⟨o,n,e,_,_,d⟩,_⟩:=I.list h;obtain⟨its',r',⟨o',n',e',_,_,d'⟩,_⟩:=I.list h';rw[e] at e';cases e';rw[d] at d'
 injection d' with d1 _
 have:its=its':=by simpa using congrArg Array.toList d1
 subst this;exact r.inj r'
theorem Inv.tuple_inj(I:Inv X pins σ H s)(h:SqT X.K H a xs)(h':SqT X.K H a ys):xs=ys:=by
 obtain⟨its,r,⟨o,e,_,n,d⟩,_⟩:=I.tuple h;obtain⟨its',r',⟨o',e',_,n',d'⟩,_⟩:=I.tuple h';rw[e] at e';cases e';rw[d] at d'
 injection d' with d1 _
 have:its=its':=by simpa using congrArg Array.toList d1
 subst this;exact r.inj r'
end
abbrev Cx.wish(X:Cx)(E:Value->Shared->Prop):Cx:={X with xe:=E}
abbrev Cx.nox(X:Cx):Cx:=X.wish λ_ _=>False
theorem Cx.Ok.wish{X:Cx}(ok:X.Ok)(E:Value->Shared->Prop):(X.wish E).Ok :=
 ⟨ok.mod,ok.kind,ok.glob,ok.blt,ok.above,ok.inj,ok.has,ok.cab,ok.hd,ok.frames,ok.stk,ok.exf,ok.bs,ok.bsz,ok.noex,ok.exfs,ok.funs,ok.frf⟩
theorem Cx.Ok.unwish{X:Cx}{E:Value->Shared->Prop}(ok:(X.wish E).Ok):X.Ok :=
 ⟨ok.mod,ok.kind,ok.glob,ok.blt,ok.above,ok.inj,ok.has,ok.cab,ok.hd,ok.frames,ok.stk,ok.exf,ok.bs,ok.bsz,ok.noex,ok.exfs,ok.funs,ok.frf⟩
section
variable {X:Cx}{pins:List (Addr×Obj)}{σ:St}{H:Hp}{s:Shared}{E:Value->Shared->Prop}
theorem Inv.wish(I:Inv X pins σ H s)(E:Value->Shared->Prop):Inv (X.wish E) pins σ H s:=⟨I.ok.wish E,I.os,I.bare,I.base,I.loc,I.cell,I.free,I.freeC,I.pin,I.hok,I.len⟩
theorem Inv.unwish(I:Inv (X.wish E) pins σ H s):Inv X pins σ H s:=⟨I.ok.unwish,I.os,I.bare,I.base,I.loc,I.cell,I.free,I.freeC,I.pin,I.hok,I.len⟩
theorem SP.unwish{D:Ends}{f:Flow}{s':Shared}(h:SP (X.wish E) pins D f s'):SP X pins D f s':=by
 cases f with
 |next=>obtain⟨σ',H',I,q⟩:=h;exact⟨σ',H',I.unwish,q⟩
 |brk=>obtain⟨σ',H',I,q⟩:=h;exact⟨σ',H',I.unwish,q⟩
 |cont=>obtain⟨σ',H',I,q⟩:=h;exact⟨σ',H',I.unwish,q⟩
 |ret u=>obtain⟨v,σ',H',I,r,q⟩:=h;exact⟨v,σ',H',I.unwish,r,q⟩
theorem PSs.nox{st:List Stmt}{t:TS}(h:PSs X.nox st t):PSs X st t:=λpins s σ H D I hw =>
 zR (h pins s σ H D (I.wish _) hw) (λ_ _ q=>q.unwish) λ_ _ z=>False.elim z
end
section
variable {X:Cx}{st:Stmt}{rest:List Stmt}{t u:TS}{e:Expr}{te:TE}{pos:Pos}
def Ny:TS:=λD σ H=>D.nx σ H
def Nz(t u:TS):TS:=λD σ H=>t {D with nx:=u D} σ H
theorem NB:PSs X [] Ny:=λ_ _ σ H _ I h=>wpAny_execs_nil ⟨σ,H,I,h⟩
theorem NP(h1:PS X st t)(h2:PSs X rest u):PSs X (st::rest) (Nz t u):=by
 intro pins s σ H D I h;refine wpAny_execs_cons (thn (h1 pins s σ H {D with nx:=u D} I h) λf s1 q=>?_)
 cases f with
 |next =>
  obtain⟨σ',H',I',q⟩:=q;exact h2 pins s1 σ' H' D I' q
 |ret v=>exact q
 |brk=>exact q
 |cont=>exact q
theorem NQ(h1:PS X st t):PSs X [st] t:=by
 intro pins s σ H D I h;refine wpAny_execs_cons (thn (h1 pins s σ H D I h) λf s1 q=>?_)
 cases f with
 |next=>exact wpAny_execs_nil q
 |ret v=>exact q
 |brk=>exact q
 |cont=>exact q
theorem Inv.quiet{pins:List (Addr×Obj)}{σ:St}{H:Hp}{s:Shared}(I:Inv X pins σ H s):interactive X.env=false:=by simp[interactive,I.ok.kind]
def NT(te:TE):TS:=λD σ H=>te σ H λ_ H1=>D.nx σ H1
theorem sU(he:PE X e te)(hs:swapsWith e none pos.line X.env=pure false:=by rfl):PS X (.Expr e pos) (NT te):=by
 intro pins s σ H D I h;exact wpAny_Expr_any (thn (he pins s σ H _ I h) λv s1 ⟨x,H1,I1,r1,q1⟩=>⟨σ,H1,I1,q1⟩) I.quiet hs
def NZ(te:TE):TS:=λD σ H=>te σ H D.rt
theorem Ed(he:PE X e te):PS X (.Return (some e) pos) (NZ te):=by
 intro pins s σ H D I h;exact wpAny_Return_some (thn (he pins s σ H _ I h) λv s1 ⟨x,H1,I1,r1,q1⟩=>⟨x,σ,H1,I1,r1,q1⟩)
def N5(c:TT)(t u:TS):TS:=λD σ H=>c σ H λb H1=>if b=true then t D σ H1 else u D σ H1
theorem N6{c:Expr}{a b:List Stmt}{tc:TT}(hc:PT X c tc)(ha:PSs X a t)(hb:PSs X b u):PS X (.If c a b pos) (N5 tc t u):=by
 intro pins s σ H D I h;refine wpAny_If (thn (hc pins s σ H _ I h) λd s1 ⟨H1,I1,q1⟩=>?_)
 cases d with
 |true=>exact ha pins s1 σ H1 D I1 q1
 |false=>exact hb pins s1 σ H1 D I1 q1
end
abbrev TG:=V->St->Hp->(St->Hp->Prop)->Prop
abbrev TGs:=List V->St->Hp->(St->Hp->Prop)->Prop
def PG(X:Cx)(target:Expr)(t:TG):Prop :=
 ∀(pins:List (Addr×Obj)) (s:Shared) (σ:St) (H:Hp) (v:V) (u:Value) (Q:St->Hp->Prop),Inv X pins σ H s->RelV v u->t v σ H Q ->
  wpAny (model X.prog X.w) X.A (assign target X.env u) (λ_ s'=>∃σ' H',Inv X pins σ' H' s'/\Q σ' H') X.xe s
def PGs(X:Cx)(ts:List Expr)(t:TGs):Prop :=
 ∀(pins:List (Addr×Obj)) (s:Shared) (σ:St) (H:Hp) (vs:List V) (us:List Value) (Q:St->Hp->Prop),Inv X pins σ H s->aR vs us->t vs σ H Q ->
  wpAny (model X.prog X.w) X.A (assignInOrder ((assignEach ts X.env).map (·.2)) us) (λ_ s'=>∃σ' H',Inv X pins σ' H' s'/\Q σ' H') X.xe s
abbrev wG:=V->V->V->Hp->(Hp->Prop)->Prop
def Ef(X:Cx)(t:wG):Prop :=
 ∀(pins:List (Addr×Obj)) (s:Shared) (σ:St) (H:Hp) (o i v:V) (ov iv u:Value) (Q:Hp->Prop),Inv X pins σ H s->RelV o ov->RelV i iv->RelV v u->t o i v H Q ->
  wpAny (model X.prog X.w) X.A (setItem ov iv u) (λ_ s'=>∃H',Inv X pins σ H' s'/\Q H') X.xe s
section
variable {X:Cx}{pos:Pos}
def pL(i:Nat):TG:=λv σ H Q=>Q (σ.set i (some v)) H
theorem N7{i:Nat}{x:Str}(hN:X.N.Nodup)(hi:X.N[i]?=some x)(hx:Loc X.env.scope x)(hf:X.fn x=true\/X.env.scope.names.lookup x=some .local:=by first | exact .inl rfl | exact .inr rfl | assumption):PG X (.Name x pos) (pL i):=by
 intro pins s σ H v u Q I r h;exact wpAny_assign_Name (wD I hN hi hx r (λs' I'=>⟨_,H,I',h⟩) hf)
def N8:TGs:=λvs σ H Q=>vs=[]/\Q σ H
def Oa(t:TG)(u:TGs):TGs:=λvs σ H Q=>∃v r,vs=v::r/\t v σ H λσ' H'=>u r σ' H' Q
theorem Oc:PGs X [] N8:=by
 intro pins s σ H vs us Q I r h;obtain⟨e,h⟩:=h;subst e;cases r;exact assignInOrder_nil ⟨σ,H,I,h⟩
theorem Od{e:Expr}{es:List Expr}{t:TG}{u:TGs}(h1:PG X e t)(h2:PGs X es u)
  (hs:(assignEach (e::es) X.env).map (·.2)=assign e X.env::(assignEach es X.env).map (·.2):=by rfl):PGs X (e::es) (Oa t u):=by
 intro pins s σ H vs us Q I r h;obtain⟨v,vr,e1,h⟩:=h;subst e1
 cases r with
 |cons r rr =>
  rw[hs];refine assignInOrder_cons (thn (h1 pins s σ H _ _ _ I r h) λ_ s1 ⟨σ1,H1,I1,q1⟩=>?_);exact h2 pins s1 σ1 H1 _ _ Q I1 rr q1
def Oe(K:PySem.W.Frag)(n:Nat)(t:TGs):TG:=λv σ H Q=>∃a xs,v=.ref a/\SqT K H a xs/\xs.length=n/\t xs σ H Q
theorem Og{es:List Expr}{k:Nat}{t:TGs}{n:Nat}(hc:X.calm=true)(h:PGs X es t)
  (hn:(assignEach es X.env).length=n:=by rfl) (hst:(assignEach es X.env).findIdx? (·.1)=none:=by rfl):PG X (.Tuple es k pos) (Oe X.K n t):=by
 intro pins s σ H v u Q I r hw;obtain⟨a,xs,e1,hq,hl,hw⟩:=hw;subst e1;cases r;obtain⟨its,rv,ht,hz⟩:=I.tuple hq
 refine assign_Tuple_tuple (I.ok.hd hc) ht (by simp[hn,<-hl,rv.length]) hst λh' hx=>?_
 have I1:Inv X pins σ H {s with heap:=h'}:=I.kept (t':=s.toks) λb o e=>hx b o (zB (zf e)) e
 exact h pins _ σ H xs _ Q I1 (by simpa using rv) hw
def Oh(to ti:TE)(t:wG):TG:=λv σ H Q=>to σ H λo H1=>ti σ H1 λi H2=>t o i v H2 λH3=>Q σ H3
theorem Eg{o i:Expr}{to ti:TE}{t:wG}(ho:PE X o to)(hi:PE X i ti)(hs:Ef X t)
  (ha:∀v,assign (.Subscript o i pos) X.env v=(do
   let ov <-holding [v] (eval o X.env)
   let iv <-holding [v,ov] (eval i X.env)
   standAt pos
   holding [v,ov,iv] (setItem ov iv v)
   release [v,ov,iv] []):=by intro _;rfl):PG X (.Subscript o i pos) (Oh to ti t):=by
 intro pins s σ H v u Q I r h;rw[ha];refine za (zT (thn (ho pins s σ H _ I h) λov s1 ⟨x,H1,I1,r1,q1⟩=>?_));refine za (zT (thn (hi pins s1 σ H1 _ I1 q1) λiv s2 ⟨y,H2,I2,r2,q2⟩=>?_));refine za (wpAny_standAt (za (zT (thn (hs pins s2 σ H2 x y v ov iv u _ I2 r1 r2 r q2) λ_ s3 ⟨H3,I3,q3⟩=>?_))));exact wpAny_release ⟨σ,H3,I3,q3⟩
def pM(te:TE)(g:TG):TS:=λD σ H=>te σ H λx H1=>g x σ H1 D.nx
theorem Eh{tg e:Expr}{te:TE}{g:TG}(he:PE X e te)(hg:PG X tg g)(hs:swapsWithSole [tg] e pos.line X.env=pure false:=by rfl)(hw:swappedStores [tg] e X.env=pure none:=by rfl)
  (h1:(assignEach [tg] X.env).map (·.2)=[assign tg X.env]:=by rfl):PS X (.Assign [tg] e pos) (pM te g):=by
 intro pins s σ H D I h;refine wpAny_Assign_stores (thn (he pins s σ H _ I h) λv s1 ⟨x,H1,I1,r1,q1⟩=>?_) hs hw;rw[h1]
 exact thn (hg pins s1 σ H1 x v _ I1 r1 q1) λ_ s2 q=>q
theorem Ei{i:Nat}{x:Str}{e:Expr}{te:TE}{pos':Pos}(hN:X.N.Nodup)(hi:X.N[i]?=some x)(hx:Loc X.env.scope x)(he:PE X e te)(hs:swapsWith e (some (.Name x pos')) pos.line X.env=pure false:=by rfl)(hf:X.fn x=true\/X.env.scope.names.lookup x=some .local:=by first | exact .inl rfl | exact .inr rfl | assumption):
  PS X (.Assign [.Name x pos'] e pos) (pM te (pL i)):=by
 intro pins s σ H D I h;refine wpAny_Assign_Name (thn (he pins s σ H _ I h) λv s1 ⟨y,H1,I1,r1,q1⟩=>?_) hs;exact wD I1 hN hi hx r1 (λs2 I2=>⟨_,H1,I2,q1⟩) hf
end
section
variable {X:Cx}{pos:Pos}
def Ej(c:TT)(tb:TS):TS:=λD σ H=>∃W:Nat->St->Hp->Prop,(∃m,W m σ H)/\∀m σ H,W m σ H ->
 c σ H λb H1=>if b=true then ∃N:St->Hp->Prop,(∀σ' H',N σ' H'->∃m',m'<m/\W m' σ' H')/\tb {D with nx:=N,ct:=N,bk:=D.nx} σ H1 else D.nx σ H1
theorem Oi{c:Expr}{body:List Stmt}{tc:TT}{tb:TS}(hp:PassesOwn (model X.prog X.w) X.A X.env X.xe)(hc:PT X c tc)(hb:PSs X body tb):PS X (.While c body [] pos) (Ej tc tb):=by
 intro pins s σ H D I h;obtain⟨W,⟨m0,w0⟩,turn⟩:=h;refine wpAny_While (codeAny_whileLoop (λn s'=>∃σ' H',Inv X pins σ' H' s'/\W n σ' H') ?_ m0 ⟨σ,H,I,w0⟩);rintro n s1 ⟨σ1,H1,I1,w1⟩;refine wpAny_passesOwn hp (thn (hc pins s1 σ1 H1 _ I1 (turn n σ1 H1 w1)) λb s2 ⟨H2,I2,q2⟩=>?_)
 cases b with
 |true =>
  obtain⟨N,hN,q2⟩:=q2;rw[if_pos rfl];refine wpAny_passesOwn hp (thn (hb pins s2 σ1 H2 _ I2 q2) λf s3 q3=>?_)
  cases f with
  |next =>
   obtain⟨σ3,H3,I3,n3⟩:=q3;obtain⟨m',hm,w3⟩:=hN σ3 H3 n3;exact⟨m',hm,σ3,H3,I3,w3⟩
  |cont =>
   obtain⟨σ3,H3,I3,n3⟩:=q3;obtain⟨m',hm,w3⟩:=hN σ3 H3 n3;exact⟨m',hm,σ3,H3,I3,w3⟩
  |brk=>exact q3
  |ret v=>exact q3
 |false =>
  rw[if_neg zk];exact wpAny_execs_nil ⟨σ1,H2,I2,q2⟩
end
structure It where
 go:Nat->Hp->Prop
 yld:Nat->Hp->V->Hp->Prop
 stop:Nat->Hp->Prop
def fZ(X:Cx)(pins:List (Addr×Obj))(H:Hp)(b:Addr):Prop :=
 H b=none/\b≠X.env.locals/\b∉X.fs/\(b∈X.ex\/X.s₀.heap.objs.size<=b)/\(∀x c,X.env.cells.lookup x=some c->c≠b)/\∀p∈X.pn++pins,p.1≠b
theorem Inv.fpOk{X:Cx}{pins:List (Addr×Obj)}{σ:St}{H H':Hp}{s:Shared}{b:Addr}(I:Inv X pins σ H s)(hb:s.heap.objs.size<=b)(hn:H' b=none):fZ X pins H' b:=by
 refine⟨hn,Nat.ne_of_gt (zA I.lt hb),I.nofs hb,.inr (zG I.sz hb),λx c e z=>?_,λp hp z=>?_⟩
 ·obtain⟨v,q⟩:=I.cell x c e;exact absurd (zA q.lt (by rw[z];exact hb)) (zL _)
 ·exact absurd (zA (zf (I.pin p hp).1) (by rw[z];exact hb)) (zL _)
structure Turn(P:Program)(w:World)(K:PySem.W.Frag)(tg:Expr)(J:It)(fp:List Addr)(it:Addr)(tn:Nat->Heap->Prop):Prop where
 mem:it∈fp
 obj:∀i h,tn i h->∀b∈fp,∃o,h.get? b=some o/\∀v,o.data≠.cell v
 keep:∀i h h',tn i h->(∀b∈fp,∀o,h.get? b=some o->h'.get? b=some o)->tn i h'
 item:∀(X:Cx),X.prog=P->X.w=w->X.K=K->X.calm=true->∀(i:Nat) (pins:List (Addr×Obj)) (s:Shared) (σ:St) (H:Hp) (E:Value->Shared->Prop),Inv X pins σ H s->(∀b∈fp,fZ X pins H b)->tn i s.heap->J.go i H ->
  wpAny (model P w) X.A (pyNext (.ref it)) (λr s1=>∃u,r=some u /\
   wpAny (model P w) X.A (letOwnedTupleGo tg (.ref it) u) (λ_ s2=>∃x H',Inv X pins σ H' s2/\RelV x u/\J.yld i H x H'/\tn (i+1) s2.heap/\∀b∈fp,H' b=none) E s1) E s
 done:∀(X:Cx),X.prog=P->X.w=w->X.K=K->X.calm=true->∀(i:Nat) (pins:List (Addr×Obj)) (s:Shared) (σ:St) (H:Hp) (E:Value->Shared->Prop),Inv X pins σ H s->(∀b∈fp,fZ X pins H b)->tn i s.heap->J.stop i H ->
  wpAny (model P w) X.A (pyNext (.ref it)) (λr s1=>r=none/\Inv X pins σ H s1) E s
 self:∀(A:Around) (i:Nat) (s:Shared) (Q:Value->Shared->Prop) (E:Value->Shared->Prop),tn i s.heap->Q (.ref it) s->wpAny (model P w) A (pyIter (.ref it)) Q E s
abbrev TI:=St->Hp->(It->Hp->Prop)->Prop
def PIE(X:Cx)(pins:List (Addr×Obj))(σ:St)(tg:Expr)(R:It->Hp->Prop)(itv:Value)(s2:Shared):Prop :=
 ∃(it:Addr) (fp:List Addr) (tn:Nat->Heap->Prop) (J:It) (H':Hp),itv=.ref it/\Inv X pins σ H' s2/\Turn X.prog X.w X.K tg J fp it tn/\tn 0 s2.heap/\(∀b∈fp,fZ X pins H' b)/\R J H'
def PI(X:Cx)(tg iter:Expr)(wi:TI):Prop :=
 ∀(pins:List (Addr×Obj)) (s:Shared) (σ:St) (H:Hp) (R:It->Hp->Prop),Inv X pins σ H s->wi σ H R ->
  wpAny (model X.prog X.w) X.A (eval iter X.env) (λv s1=>wpAny (model X.prog X.w) X.A (pyIter v) (PIE X pins σ tg R) X.xe s1) X.xe s
theorem nA{M:Model}{A:Around}{E:Value->Shared->Prop}{s:Shared}{tg:Expr}{it:Addr}{u:Value}{o:Obj}{n:String}{vs:Array Value}{Q:Unit->Shared->Prop}(ho:s.heap.get? it=some o)(hc:o.cls=.type n)(hd:o.data=.fields vs)
  (hn:["enumerate","zip","dict_itemiterator","dict_reverseitemiterator","odict_iterator","itertools.zip_longest","itertools.pairwise"].contains n=false) (hQ:Q () s):wpAny M A (letOwnedTupleGo tg (.ref it) u) Q E s:=by
 unfold letOwnedTupleGo
 cases tg<;>first
  | exact zc hQ
  | (cases u<;>first
    | exact zc hQ
    | (refine za (wpAny_load ho ?_)
       rw[hc,hd];show wpAny M A (if(["enumerate","zip","dict_itemiterator","dict_reverseitemiterator","odict_iterator","itertools.zip_longest","itertools.pairwise"].contains n&&vs[0]? == some (rawInt _))=true then _ else _) Q E s;rw[if_neg (by intro h;rw[hn,Bool.false_and] at h;cases h)]
       exact zc hQ))
def Itl(K:PySem.W.Frag)(a:Addr):It :=
 ⟨λi H=>∃xs x,SqL K H a xs/\xs[i]?=some x,λi H x H'=>H'=H/\∀xs,SqL K H a xs->xs[i]?=some x,λi H=>∃xs,SqL K H a xs/\xs.length<=i⟩
def Itt(K:PySem.W.Frag)(a:Addr):It :=
 ⟨λi H=>∃xs x,SqT K H a xs/\xs[i]?=some x,λi H x H'=>H'=H/\∀xs,SqT K H a xs->xs[i]?=some x,λi H=>∃xs,SqT K H a xs/\xs.length<=i⟩
def Itr(lo:Int)(n:Nat):It:=⟨λi _=>i<n,λi H x H'=>H'=H/\x=.int (lo+i),λi _=>n<=i⟩
theorem Oj{P:Program}{w:World}{K:PySem.W.Frag}{tg:Expr}(a it:Addr):Turn P w K tg (Itl K a) [it] it (λi h=>h.IsListIter it a i) where
 mem:=by simp
 obj:=λi h st b hb=>by
  have e:b=it:=by simpa using hb
  subst e;obtain⟨o,e,c,d⟩:=st;exact⟨o,e,λv z=>by rw[d] at z;cases z⟩
 keep:=λi h h' st k=>st.at λo e=>k it (by simp) o e
 item:=by
  intro X hP hw hK hc i pins s σ H E I hf st hg;subst hP hw hK;obtain⟨xs,x,hq,hx⟩:=hg;obtain⟨its,rv,p,hz⟩:=I.list hq;obtain⟨u,hu,ru⟩:=rv.get hx;obtain⟨f0,f1,f2,f3,f4,f5⟩:=hf it (by simp)
  refine wpAny_pyNext_list_item st p.isList (x:=u) (by simpa using hu) λh' st' sb=>?_
  have I1:Inv X pins σ H {s with heap:=h'}:=I.turned (t':=s.toks) (λb o hb e=>(sb.2 b hb).trans e) f0 f1 f3 f4 f5;obtain⟨o,e,c,d⟩:=id st';exact⟨u,rfl,nA (s:={s with heap:=h'}) e c d (by decide) ⟨x,H,I1,ru,⟨rfl,λys hy=>by rw[I.list_inj hy hq];exact hx⟩,st',λb hb=>(hf b hb).1⟩⟩
 done:=by
  intro X hP hw hK hc i pins s σ H E I hf st hg;subst hP hw hK;obtain⟨xs,hq,hx⟩:=hg;obtain⟨its,rv,p,hz⟩:=I.list hq;obtain⟨f0,f1,f2,f3,f4,f5⟩:=hf it (by simp);have hl:=rv.length
  exact wpAny_pyNext_list_end (I.ok.hd hc) st p.isList (by simp;omega) λh' eb=>⟨rfl,I.turned (t':=s.toks) (λb o hb e=>eb b o hb e) f0 f1 f3 f4 f5⟩
 self:=λ_ _ _ _ _ st h=>wpAny_pyIter_listiter st h
theorem Ol{P:Program}{w:World}{K:PySem.W.Frag}{tg:Expr}(a it:Addr):Turn P w K tg (Itt K a) [it] it (λi h=>h.IsTupleIter it a i) where
 mem:=by simp
 obj:=λi h st b hb=>by
  have e:b=it:=by simpa using hb
  subst e;obtain⟨o,e,c,d⟩:=st;exact⟨o,e,λv z=>by rw[d] at z;cases z⟩
 keep:=λi h h' st k=>st.at λo e=>k it (by simp) o e
 item:=by
  intro X hP hw hK hc i pins s σ H E I hf st hg;subst hP hw hK;obtain⟨xs,x,hq,hx⟩:=hg;obtain⟨its,rv,p,hz⟩:=I.tuple hq;obtain⟨u,hu,ru⟩:=rv.get hx;obtain⟨f0,f1,f2,f3,f4,f5⟩:=hf it (by simp)
  refine wpAny_pyNext_tuple_item st (show s.heap.IsTuple a its.toArray from p) (x:=u) (by simpa using hu) λh' st' sb=>?_
  have I1:Inv X pins σ H {s with heap:=h'}:=I.turned (t':=s.toks) (λb o hb e=>(sb.2 b hb).trans e) f0 f1 f3 f4 f5;obtain⟨o,e,c,d⟩:=id st';exact⟨u,rfl,nA (s:={s with heap:=h'}) e c d (by decide) ⟨x,H,I1,ru,⟨rfl,λys hy=>by rw[I.tuple_inj hy hq];exact hx⟩,st',λb hb=>(hf b hb).1⟩⟩
 done:=by
  intro X hP hw hK hc i pins s σ H E I hf st hg;subst hP hw hK;obtain⟨xs,hq,hx⟩:=hg;obtain⟨its,rv,p,hz⟩:=I.tuple hq;obtain⟨f0,f1,f2,f3,f4,f5⟩:=hf it (by simp);have hl:=rv.length
  exact wpAny_pyNext_tuple_end (I.ok.hd hc) st (show s.heap.IsTuple a its.toArray from p) (by simp;omega) λh' eb=>⟨rfl,I.turned (t':=s.toks) (λb o hb e=>eb b o hb e) f0 f1 f3 f4 f5⟩
 self:=λ_ _ _ _ _ st h=>wpAny_pyIter_tupleiter st h
theorem Om{P:Program}{w:World}{K:PySem.W.Frag}{tg:Expr}(it:Addr)(lo:Int)(n:Nat):Turn P w K tg (Itr lo n) [it] it (λi h=>IsRangeIter h it (lo+(i:Nat) * 1) ((n:Int) - (i:Nat)) 1) where
 mem:=by simp
 obj:=λi h st b hb=>by
  have e:b=it:=by simpa using hb
  subst e
  exact⟨_,st,λv z=>by
   have z':Data.fields _=Data.cell v:=z
   cases z'⟩
 keep:=λi h h' st k=>k it (by simp) _ st
 item:=by
  intro X hP hw hK hc i pins s σ H E I hf st hg;subst hP hw hK;obtain⟨f0,f1,f2,f3,f4,f5⟩:=hf it (by simp);have W:=Walks.range (prog:=X.prog) (w:=X.w) (I.ok.hd hc) it lo 1 n
  refine W.item i s _ _ hg st λv h' tk hv st' kk=>?_
  obtain⟨t,rfl⟩:=hv;have I1:Inv X pins σ H {s with heap:=h',toks:=tk}:=I.turned (λb o hb e=>kk b o (by simpa using hb) e) f0 f1 f3 f4 f5;refine⟨_,rfl,nA (s:={s with heap:=h',toks:=tk}) (n:="range_iterator") st' rfl rfl (by decide) ⟨.int (lo+i),H,I1,⟨t,?_⟩,⟨rfl,rfl⟩,st',λb hb=>(hf b hb).1⟩⟩;rw[Int.mul_one]
 done:=by
  intro X hP hw hK hc i pins s σ H E I hf st hg;subst hP hw hK;obtain⟨f0,f1,f2,f3,f4,f5⟩:=hf it (by simp)
  exact wpAny_pyNext_range_end (I.ok.hd hc) st (by have:n<=i:=hg;omega) λh' eb=>⟨rfl,I.turned (t':=s.toks) (λb o hb e=>eb b o hb e) f0 f1 f3 f4 f5⟩
 self:=λ_ _ _ _ _ st h=>wpAny_pyIter_rangeiter st h
section
variable {X:Cx}{tg:Expr}
def Oo(K:PySem.W.Frag)(tl:TE):TI:=λσ H R=>tl σ H λx H1=>∃a,x=.ref a/\(∃xs,SqL K H1 a xs)/\R (Itl K a) H1
def Oq(K:PySem.W.Frag)(tl:TE):TI:=λσ H R=>tl σ H λx H1=>∃a,x=.ref a/\(∃xs,SqT K H1 a xs)/\R (Itt K a) H1
theorem Ek{l:Expr}{tl:TE}(hl:PE X l tl):PI X tg l (Oo X.K tl):=by
 intro pins s σ H R I h
 refine thn (hl pins s σ H _ I h) λv s1 ⟨x,H1,I1,r1,q1⟩=>?_
 obtain⟨a,e,⟨xs,hq⟩,q⟩:=q1;subst e;cases r1;obtain⟨its,rv,p,hz⟩:=I1.list hq;refine wpAny_pyIter_list p.isList ?_;refine⟨s1.heap.objs.size,[s1.heap.objs.size],_,_,H1,rfl,I1.kept (t':=s1.toks) λb o e=>zu _ e,Oj a _,⟨_,zH _ rfl,rfl,rfl⟩,λb hb=>?_,q⟩
 have e:b=s1.heap.objs.size:=by simpa using hb
 subst e;exact I1.fpOk (zb _) (I1.hok.fresh (zb _))
theorem Ot{l:Expr}{tl:TE}(hl:PE X l tl):PI X tg l (Oq X.K tl):=by
 intro pins s σ H R I h
 refine thn (hl pins s σ H _ I h) λv s1 ⟨x,H1,I1,r1,q1⟩=>?_
 obtain⟨a,e,⟨xs,hq⟩,q⟩:=q1;subst e;cases r1;obtain⟨its,rv,p,hz⟩:=I1.tuple hq;refine wpAny_pyIter_tuple (show s1.heap.IsTuple a its.toArray from p) ?_;refine⟨s1.heap.objs.size,[s1.heap.objs.size],_,_,H1,rfl,I1.kept (t':=s1.toks) λb o e=>zu _ e,Ol a _,⟨_,zH _ rfl,rfl,rfl⟩,λb hb=>?_,q⟩
 have e:b=s1.heap.objs.size:=by simpa using hb
 subst e;exact I1.fpOk (zb _) (I1.hok.fresh (zb _))
theorem El{pins:List (Addr×Obj)}{σ:St}{H:Hp}{s:Shared}{R:It->Hp->Prop}{E:Value->Shared->Prop}{lo hi:Int}{t u v:Tok}{tk:Nat}(I:Inv X pins σ H s)(h1:-(2 ^ 62)<=lo)(h2:lo<2 ^ 62)(h3:-(2 ^ 62)<=hi)(h4:hi<2 ^ 62)
  (q:R (Itr lo (hi - lo).toNat) H):wpAny (model X.prog X.w) X.A (pyIter (.ref s.heap.objs.size)) (PIE X pins σ tg R) E {s with heap:=s.heap.push {cls:=.type "range",data:=.fields #[.int lo t,.int hi u,.int 1 v]},toks:=tk}:=by
 refine wpAny_pyIter_range (IsRange.new ..) (small_one h1 h2 h3 h4) ?_
 have I1:Inv X pins σ H {s with heap:=s.heap.push {cls:=.type "range",data:=.fields #[.int lo t,.int hi u,.int 1 v]},toks:=tk}:=I.kept λb o e=>zu _ e
 refine⟨(s.heap.push {cls:=.type "range",data:=.fields #[.int lo t,.int hi u,.int 1 v]}).objs.size,[(s.heap.push {cls:=.type "range",data:=.fields #[.int lo t,.int hi u,.int 1 v]}).objs.size],_,_,H,rfl,
  I1.kept (t':=tk) λb o e=>zu _ e,Om _ lo (hi - lo).toNat,?_,λb hb=>?_,q⟩
 ·have e1:lo+((0:Nat):Int) * 1=lo:=by simp
  have e2:(((hi - lo).toNat:Nat):Int) - ((0:Nat):Int)=Builtin.Range.rangeSize lo hi 1:=by rw[rangeSize_one];split<;>omega
  show IsRangeIter _ _ (lo+((0:Nat):Int) * 1) ((((hi - lo).toNat:Nat):Int) - ((0:Nat):Int)) 1;rw[e1,e2];exact zH _ rfl
 ·have e:b=(s.heap.push {cls:=.type "range",data:=.fields #[.int lo t,.int hi u,.int 1 v]}).objs.size:=by simpa using hb
  subst e;exact I1.fpOk (zb _) (I1.hok.fresh (zb _))
def Ou(ta:TA):TI:=λσ H R=>ta σ H λvs H1=>∃j:Int,vs=[.int j]/\-(2 ^ 62)<=j/\j<2 ^ 62/\R (Itr 0 j.toNat) H1
def Ov(ta:TA):TI:=λσ H R=>ta σ H λvs H1=>∃i j:Int,vs=[.int i,.int j]/\(-(2 ^ 62)<=i/\i<2 ^ 62/\-(2 ^ 62)<=j/\j<2 ^ 62)/\R (Itr i (j - i).toNat) H1
theorem Ox{a:Expr}{ta:TA}{p pos:Pos}(hg:Gl X "range")(hm:X.mg "range" = none)(ha:PA X [a] ta)(hs:starEach [a] X.env=[(false,eval a X.env)]:=by rfl):PI X tg (.Call (.Name "range" p) [a] [] pos) (Ou ta):=by
 intro pins s σ H R I h;refine Call_ (gW I hg hm boot_range (PyProof.Rows.callWith_type1 (thn (ha pos pins s σ H _ I h) λus s1 ⟨vs,H1,I1,r1,q1⟩=>?_) hs rfl));obtain⟨j,e,q1,q2,q⟩:=q1;subst e
 cases r1 with
 |cons r rr =>
  cases rr;obtain⟨t,rfl⟩:=r;exact call_range_1 (El I1 (by omega) (by omega) q1 q2 (by simpa using q))
theorem Oz{a b:Expr}{ta:TA}{p pos:Pos}(hg:Gl X "range")(hm:X.mg "range" = none)(ha:PA X [a,b] ta)(hs:starEach [a,b] X.env=[(false,eval a X.env),(false,eval b X.env)]:=by rfl)(hs2:starEach [b] X.env=[(false,eval b X.env)]:=by rfl):
  PI X tg (.Call (.Name "range" p) [a,b] [] pos) (Ov ta):=by
 intro pins s σ H R I h;refine Call_ (gW I hg hm boot_range (PyProof.Rows.callWith_type1 (thn (ha pos pins s σ H _ I h) λus s1 ⟨vs,H1,I1,r1,q1⟩=>?_) (by rw[hs,hs2]) (by rw[hs2];rfl)));obtain⟨i,j,e,⟨q1,q2,q3,q4⟩,q⟩:=q1;subst e
 cases r1 with
 |cons r rr =>
  cases rr with
  |cons r' rr =>
   cases rr;obtain⟨t,rfl⟩:=r;obtain⟨t',rfl⟩:=r';exact call_range_2 (El I1 q1 q2 q3 q4 q)
def wH(wi:TI)(g:TG)(tb:TS):TS:=λD σ H=>wi σ H λJ H1=>∃W:Nat->Nat->St->Hp->Prop,(∃m,W 0 m σ H1)/\∀i m σ H,W i m σ H ->
 (J.stop i H/\D.nx σ H)\/(J.go i H/\∃N:St->Hp->Prop,(∀σ' H',N σ' H'->∃m',m'<m/\W (i+1) m' σ' H')/\∀x H',J.yld i H x H'->g x σ H' λσ2 H2=>tb {D with nx:=N,ct:=N,bk:=D.nx} σ2 H2)
def pN(fp:List Addr)(h:Heap):List (Addr×Obj):=fp.filterMap λb=>(h.get? b).map λo=>(b,o)
theorem sV{fp:List Addr}{h:Heap}{b:Addr}{o:Obj}(hb:b∈fp)(e:h.get? b=some o):(b,o)∈pN fp h:=List.mem_filterMap.mpr ⟨b,hb,by rw[e];rfl⟩
theorem OD{fp:List Addr}{h:Heap}{p:Addr×Obj}(hp:p∈pN fp h):p.1∈fp/\h.get? p.1=some p.2:=by
 obtain⟨b,hb,e⟩:=List.mem_filterMap.mp hp
 cases q:h.get? b with
 |none=>rw[q] at e;cases e
 |some o =>
  rw[q] at e;have e':(b,o)=p:=zx e;subst e';exact⟨hb,q⟩
theorem Inv.pinned{pins:List (Addr×Obj)}{σ:St}{H:Hp}{s:Shared}{fp:List Addr}(I:Inv X pins σ H s)(hf:∀b∈fp,fZ X pins H b)(ho:∀b∈fp,∃o,s.heap.get? b=some o/\∀v,o.data≠.cell v):Inv X (pins++pN fp s.heap) σ H s :=
 I.pins_of λp hp=>(zF.mp hp).elim (λz=>I.pin p (zM _ z)) λz=>by
  obtain⟨hb,e⟩:=OD z;obtain⟨f0,f1,f2,_⟩:=hf p.1 hb;obtain⟨o,e',d⟩:=ho p.1 hb;rw[e] at e';cases e';exact⟨e,f0,f1,f2,d⟩
theorem Inv.unpinned{pins pl:List (Addr×Obj)}{σ:St}{H:Hp}{s:Shared}(I:Inv X (pins++pl) σ H s):Inv X pins σ H s:=I.pins_of λp hp=>I.pin p (zM _ (jf _ hp))
theorem Em{iter:Expr}{body:List Stmt}{wi:TI}{g:TG}{tb:TS}{pos:Pos}(hp:PassesOwn (model X.prog X.w) X.A X.env X.xe)(hc:X.calm=true)(hi:PI X tg iter wi)(hg:PG X tg g)(hb:PSs X body tb)
  (hs:∀x,foldedSetIterable iter X.env x=pure x:=by intro _;rfl):PS X (.For tg iter body [] pos) (wH wi g tb):=by
 intro pins s σ H D I h;refine wpAny_For (thn (hi pins s σ H _ I h) λv s1 h1=>thn h1 λitv s2 h2=>?_) hs;obtain⟨it,fp,tn,J,H2,e,I2,T,st2,f2,W,⟨m0,w0⟩,turn⟩:=h2;subst e
 have stat:∀{H':Hp},(∀b∈fp,H' b=none)->∀b∈fp,fZ X pins H' b:=λhn b hb=>⟨hn b hb,(f2 b hb).2⟩
 refine codeAny_forLoop_any (λn s'=>∃i σ' H',Inv X pins σ' H' s'/\tn i s'.heap/\(∀b∈fp,H' b=none)/\W i n σ' H') ?_ m0 ⟨0,σ,H2,I2,st2,λb hb=>(f2 b hb).1,w0⟩;rintro n s3 ⟨i,σ3,H3,I3,st3,fr3,w3⟩
 rcases turn i n σ3 H3 w3 with⟨stop,qn⟩ | ⟨go,N,hN,step⟩
 ·refine wpAny_passesOwn hp (thn (T.done X rfl rfl rfl hc i pins s3 σ3 H3 X.xe I3 (stat fr3) st3 stop) λr s4 ⟨hr,I4⟩=>?_);subst hr;exact wpAny_execs_nil ⟨σ3,H3,I4,qn⟩
 ·refine wpAny_passesOwn hp (thn (T.item X rfl rfl rfl hc i pins s3 σ3 H3 X.xe I3 (stat fr3) st3 go) λr s4 ⟨u,hr,h4⟩=>?_);subst hr;refine wpAny_passesOwn hp (thn h4 λ_ s5 ⟨x,H5,I5,r5,y5,st5,fr5⟩=>?_);have I5':=I5.pinned (stat fr5) (T.obj _ _ st5);refine wpAny_passesOwn hp (thn (hg _ s5 σ3 H5 x u _ I5' r5 (step x H5 y5)) λ_ s6 ⟨σ6,H6,I6,q6⟩=>?_);refine wpAny_passesOwn hp (thn (hb _ s6 σ6 H6 _ I6 q6) λf s7 q7=>?_)
  have again:∀{σ7:St}{H7:Hp},Inv X (pins++pN fp s5.heap) σ7 H7 s7->N σ7 H7->∃m,m<n/\∃i σ' H',Inv X pins σ' H' s7/\tn i s7.heap/\(∀b∈fp,H' b=none)/\W i m σ' H':=λ{σ7 H7} I7 n7=>by
   obtain⟨m',hm,w7⟩:=hN σ7 H7 n7;refine⟨m',hm,i+1,σ7,H7,I7.unpinned,T.keep _ _ _ st5 λb hb o e=>(I7.pin (b,o) (zM _ (zM _ (sV hb e)))).1,λb hb=>?_,w7⟩;obtain⟨o,e,d⟩:=T.obj _ _ st5 b hb;exact(I7.pin (b,o) (zM _ (zM _ (sV hb e)))).2.1
  cases f with
  |next=>obtain⟨σ7,H7,I7,n7⟩:=q7;exact again I7 n7
  |cont=>obtain⟨σ7,H7,I7,n7⟩:=q7;exact again I7 n7
  |brk=>obtain⟨σ7,H7,I7,q7⟩:=q7;exact⟨σ7,H7,I7.unpinned,q7⟩
  |ret v=>obtain⟨x7,σ7,H7,I7,r7,q7⟩:=q7;exact⟨x7,σ7,H7,I7.unpinned,r7,q7⟩
end
abbrev R2:=V->V->Hp->VK->Prop
def OpR(X:Cx)(f:Value->Value->Sem Value)(r:R2):Prop :=
 ∀(pins:List (Addr×Obj)) (s:Shared) (σ:St) (H:Hp) (x y:V) (v u:Value) (Q:VK),Inv X pins σ H s->RelV x v->RelV y u->r x y H Q ->
  wpAny (model X.prog X.w) X.A (f v u) (EP X pins σ Q) X.xe s
def UnR(X:Cx)(f:Value->Sem Value)(r:V->Hp->VK->Prop):Prop :=
 ∀(pins:List (Addr×Obj)) (s:Shared) (σ:St) (H:Hp) (x:V) (v:Value) (Q:VK),Inv X pins σ H s->RelV x v->r x H Q ->
  wpAny (model X.prog X.w) X.A (f v) (EP X pins σ Q) X.xe s
def iC(X:Cx)(f:Value)(r:List V->Hp->VK->Prop):Prop :=
 ∀(pins:List (Addr×Obj)) (s:Shared) (σ:St) (H:Hp) (xs:List V) (us:List Value) (Q:VK),Inv X pins σ H s->aR xs us->r xs H Q ->
  wpAny (model X.prog X.w) X.A (call f us) (EP X pins σ Q) X.xe s
def OJ(X:Cx)(r:V->Hp->(Bool->Hp->Prop)->Prop):Prop :=
 ∀(pins:List (Addr×Obj)) (s:Shared) (σ:St) (H:Hp) (x:V) (v:Value) (Q:Bool->Hp->Prop),Inv X pins σ H s->RelV x v->r x H Q ->
  wpAny (model X.prog X.w) X.A (truthy v) (TP X pins σ Q) X.xe s
def tOp(r:R2)(ta tb:TE):TE:=λσ H Q=>ta σ H λx H1=>tb σ H1 λy H2=>r x y H2 Q
def tUn(r:V->Hp->VK->Prop)(ta:TE):TE:=λσ H Q=>ta σ H λx H1=>r x H1 Q
def rI(C:Int->Int->Prop)(g:Int->Int->V):R2:=λx y H Q=>∃i j,x=.int i/\y=.int j/\C i j/\Q (g i j) H
def rI0(g:Int->Int->V):R2:=λx y H Q=>∃i j,x=.int i/\y=.int j/\Q (g i j) H
def rU(g:Int->V):V->Hp->VK->Prop:=λx H Q=>∃i,x=.int i/\Q (g i) H
section
variable {X:Cx}{a b c:Expr}{ta tb tc:TE}{pos:Pos}
theorem wI(ha:PE X a ta)(hb:PE X b tb){pins:List (Addr×Obj)}{s:Shared}{σ:St}{H:Hp}{R:V->V->Hp->Prop}(I:Inv X pins σ H s)
  (h:ta σ H λx H1=>tb σ H1 λy H2=>R x y H2) {Q:Value->Shared->Prop}{f:Value->Value->Sem Value}
  (hf:∀v u s2 x y H2,Inv X pins σ H2 s2->RelV x v->RelV y u->R x y H2->wpAny (model X.prog X.w) X.A (f v u) Q X.xe s2):
  wpAny (model X.prog X.w) X.A (eval a X.env) (λv s₁=>wpAny (model X.prog X.w) X.A (eval b X.env) (λu s₂=>wpAny (model X.prog X.w) X.A (f v u) Q X.xe s₂) X.xe s₁) X.xe s:=by
 refine thn (ha pins s σ H _ I h) λv s1 ⟨x,H1,I1,r1,q1⟩=>?_
 refine thn (hb pins s1 σ H1 _ I1 q1) λu s2 ⟨y,H2,I2,r2,q2⟩=>?_
 exact hf v u s2 x y H2 I2 r1 r2 q2
theorem O8{op:Operator}{r:R2}(ho:OpR X (binaryOp op) r)(ha:PE X a ta)(hb:PE X b tb):PE X (.BinOp a op b pos) (tOp r ta tb):=by
 intro pins s σ H Q I h;exact wpAny_BinOp (wI ha hb I h λv u s2 x y H2 I2 rx ry q=>ho pins s2 σ H2 x y v u Q I2 rx ry q)
theorem O9{op:UnaryOp}{r:V->Hp->VK->Prop}(ho:UnR X (unaryOp op) r)(ha:PE X a ta):PE X (.UnaryOp op a pos) (tUn r ta):=by
 intro pins s σ H Q I h;exact UnaryOp_ (thn (ha pins s σ H _ I h) λv s1 ⟨x,H1,I1,r1,q1⟩=>ho pins s1 σ H1 x v Q I1 r1 q1)
theorem opI{f:Value->Value->Sem Value}{C:Int->Int->Prop}{g:Int->Int->Int}
  (rule:∀(i j:Int) (t u:Tok) (s:Shared) (Q:Value->Shared->Prop) (E:Value->Shared->Prop),C i j->Q (.int (g i j) s.toks) {s with toks:=s.toks+1}->wpAny (model X.prog X.w) X.A (f (.int i t) (.int j u)) Q E s):
  OpR X f (rI C λi j=>.int (g i j)):=by
 intro pins s σ H x y v u Q I rx ry h;obtain⟨i,j,rfl,rfl,hc,q⟩:=h;obtain⟨t,rfl⟩:=rx;obtain⟨t',rfl⟩:=ry;exact rule i j t t' s _ _ hc ⟨.int (g i j),H,I.tok _,⟨_,rfl⟩,q⟩
theorem En{f:Value->Value->Sem Value}{g:Int->Int->Int}
  (rule:∀(i j:Int) (t u:Tok) (s:Shared) (Q:Value->Shared->Prop) (E:Value->Shared->Prop),Q (.int (g i j) s.toks) {s with toks:=s.toks+1}->wpAny (model X.prog X.w) X.A (f (.int i t) (.int j u)) Q E s):
  OpR X f (rI0 λi j=>.int (g i j)):=by
 intro pins s σ H x y v u Q I rx ry h;obtain⟨i,j,rfl,rfl,q⟩:=h;obtain⟨t,rfl⟩:=rx;obtain⟨t',rfl⟩:=ry;exact rule i j t t' s _ _ ⟨.int (g i j),H,I.tok _,⟨_,rfl⟩,q⟩
theorem wJ{f:Value->Value->Sem Value}{g:Int->Int->Bool}
  (rule:∀(i j:Int) (t u:Tok) (s:Shared) (Q:Value->Shared->Prop) (E:Value->Shared->Prop),Q (.bool (g i j)) s->wpAny (model X.prog X.w) X.A (f (.int i t) (.int j u)) Q E s):
  OpR X f (rI0 λi j=>.bl (g i j)):=by
 intro pins s σ H x y v u Q I rx ry h;obtain⟨i,j,rfl,rfl,q⟩:=h;obtain⟨t,rfl⟩:=rx;obtain⟨t',rfl⟩:=ry;exact rule i j t t' s _ _ ⟨.bl (g i j),H,I,rfl,q⟩
def Pa(i j:Int):Prop:=0<j/\j<1073741824
def Pb(i j:Int):Prop:=0<=j/\j<=1000000/\i.natAbs<2 ^ 64
def wK(i j:Int):Prop:=(-(2 ^ 64)<i/\i<2 ^ 64)\/(-(2 ^ 64)<j/\j<2 ^ 64)
theorem wK.ok{i j:Int}(h:wK i j):IntMulOk i j:=by
 rcases h with⟨h1,h2⟩ | ⟨h1,h2⟩
 ·exact .of_left (intBits_le_64 h1 h2)
 ·exact .of_right (intBits_le_64 h1 h2)
theorem Pg:OpR X (binaryOp .Add) (rI0 λi j=>.int (i+j)):=En λ_ _ _ _ _ _ _ q=>add_int q
theorem Ph:OpR X (binaryOp .Sub) (rI0 λi j=>.int (i - j)):=En λ_ _ _ _ _ _ _ q=>sub_int q
theorem Pj:OpR X (binaryOp .Mult) (rI wK λi j=>.int (i * j)):=opI λ_ _ _ _ _ _ _ hc q=>mul_int q hc.ok
theorem Pk:OpR X (binaryOp .FloorDiv) (rI Pa λi j=>.int (i / j)):=opI λi j _ _ _ _ _ hc q=>by
 have h1:(0:Int)<j:=hc.1;have h2:j<1073741824:=hc.2;exact floordiv_int (by omega) (by rw[Int.fdiv_eq_ediv_of_nonneg i (by omega)];exact q) (.inl (PyProof.noPylong_small (by omega)))
theorem Pn:OpR X (binaryOp .Mod) (rI (λ_ j=>0<j) λi j=>.int (i % j)):=opI λi j _ _ _ _ _ hc q=>by
 have h1:(0:Int)<j:=hc;exact mod_int' (by omega) (by rw[Int.fmod_eq_emod_of_nonneg i (by omega)];exact q)
theorem Pq:OpR X (binaryOp .Pow) (rI Pb λi j=>.int (i ^ j.toNat)):=opI λ_ _ _ _ _ _ _ hc q=>pow_int_small hc.1 hc.2.1 hc.2.2 q
theorem unI{f:Value->Sem Value}{g:Int->Int}
  (rule:∀(i:Int) (t:Tok) (s:Shared) (Q:Value->Shared->Prop) (E:Value->Shared->Prop),Q (.int (g i) s.toks) {s with toks:=s.toks+1}->wpAny (model X.prog X.w) X.A (f (.int i t)) Q E s):
  UnR X f (rU λi=>.int (g i)):=by
 intro pins s σ H x v Q I rx h;obtain⟨i,rfl,q⟩:=h;obtain⟨t,rfl⟩:=rx;exact rule i t s _ _ ⟨.int (g i),H,I.tok _,⟨_,rfl⟩,q⟩
theorem Pu:UnR X (unaryOp .USub) (rU λi=>.int (-i)):=unI λ_ _ _ _ _ q=>neg_int q
theorem Px:OpR X (binaryOp .Add) (λx y H Q=>∃i k,x=.int i/\y=.bl k/\Q (.int (i+b2i k)) H):=by
 intro pins s σ H x y v u Q I rx ry h;obtain⟨i,k,rfl,rfl,q⟩:=h;obtain⟨t,rfl⟩:=rx;cases ry;exact add_int_bool ⟨.int (i+b2i k),H,I.tok _,⟨_,rfl⟩,q⟩
end
def Eo:V->V->Bool
 | .non,.non=>true | .non,.int _=>true | .int _,.non=>true | .non,.bl _=>true | .bl _,.non=>true | .non,.str _=>true | .str _,.non=>true
 | .int _,.int _=>true | .bl _,.bl _=>true | .str _,.str _=>true | .byt _,.byt _=>true
 | .int _,.str _=>true | .str _,.int _=>true | .bl _,.str _=>true | .str _,.bl _=>true
 | _,_=>false
def rEq:R2:=λx y H Q=>Eo x y=true/\Q (.bl (decide (x=y))) H
def rNe:R2:=λx y H Q=>Eo x y=true/\Q (.bl (!decide (x=y))) H
theorem Ep{i j:Int}:decide (V.int i=V.int j)=(i == j):=by
 rw[Bool.eq_iff_iff];simp
theorem Er{i j:Bool}:decide (V.bl i=V.bl j)=(i == j):=by
 rw[Bool.eq_iff_iff];simp
theorem Es{i j:Str}:decide (V.str i=V.str j)=(i == j):=by
 rw[Bool.eq_iff_iff];simp
theorem Et{i j:Array UInt8}:decide (V.byt i=V.byt j)=(i.toList == j.toList):=by
 rw[Bool.eq_iff_iff];cases i;cases j;simp
section
variable {X:Cx}{a b c:Expr}{ta tb tc:TE}{pos:Pos}
theorem cM{pins:List (Addr×Obj)}{σ:St}{H:Hp}{s:Shared}{Q:VK}{k k':Bool}(I:Inv X pins σ H s)(q:Q (.bl k) H)(e:k=k'):EP X pins σ Q (.bool k') s:=by
 subst e;exact⟨.bl k,H,I,rfl,q⟩
theorem wL:OpR X (compareOp .Eq) rEq:=by
 intro pins s σ H x y v u Q I rx ry h;obtain⟨hs,q⟩:=h
 cases x with
 |non =>
  cases rx
  cases y with
  |non=>cases ry;exact PySem.EqNone.eq_none_none (cM I q (by simp))
  |bl j=>cases ry;exact PySem.EqNone.eq_none_bool (cM I q (by simp))
  |int j=>obtain⟨t',rfl⟩:=ry;exact PySem.EqNone.eq_none_int (cM I q (by simp))
  |str j=>obtain⟨t',rfl⟩:=ry;exact PySem.EqNone.eq_none_str (cM I q (by simp))
  | _=>exact absurd (show false=true from hs) zk
 |bl i =>
  cases rx
  cases y with
  |non=>cases ry;exact PySem.EqNone.eq_bool_none (cM I q (by simp))
  |bl j=>cases ry;exact eq_bool (cM I q Er)
  |str j=>obtain⟨t',rfl⟩:=ry;exact PySem.EqMixed.eq_bool_str (cM I q (by simp))
  | _=>exact absurd (show false=true from hs) zk
 |int i =>
  obtain⟨t,rfl⟩:=rx
  cases y with
  |non=>cases ry;exact PySem.EqNone.eq_int_none (cM I q (by simp))
  |int j=>obtain⟨t',rfl⟩:=ry;exact eq_int (cM I q Ep)
  |str j=>obtain⟨t',rfl⟩:=ry;exact PySem.EqMixed.eq_int_str (cM I q (by simp))
  | _=>exact absurd (show false=true from hs) zk
 |str i =>
  obtain⟨t,rfl⟩:=rx
  cases y with
  |non=>cases ry;exact PySem.EqNone.eq_str_none (cM I q (by simp))
  |bl j=>cases ry;exact PySem.EqMixed.eq_str_bool (cM I q (by simp))
  |int j=>obtain⟨t',rfl⟩:=ry;exact PySem.EqMixed.eq_str_int (cM I q (by simp))
  |str j=>obtain⟨t',rfl⟩:=ry;exact eq_str (cM I q Es)
  | _=>exact absurd (show false=true from hs) zk
 |byt i =>
  obtain⟨t,rfl⟩:=rx
  cases y with
  |byt j=>obtain⟨t',rfl⟩:=ry;exact PySem.W.eq_bytes (cM I q Et)
  | _=>exact absurd (show false=true from hs) zk
 | _=>cases y<;>exact absurd (show false=true from hs) zk
theorem wM:OpR X (compareOp .NotEq) rNe:=by
 intro pins s σ H x y v u Q I rx ry h;obtain⟨hs,q⟩:=h
 cases x with
 |non =>
  cases rx
  cases y with
  |non=>cases ry;exact PySem.EqNone.ne_none_none (cM I q (by simp))
  |bl j=>cases ry;exact PySem.EqNone.ne_none_bool (cM I q (by simp))
  |int j=>obtain⟨t',rfl⟩:=ry;exact PySem.EqNone.ne_none_int (cM I q (by simp))
  |str j=>obtain⟨t',rfl⟩:=ry;exact PySem.EqNone.ne_none_str (cM I q (by simp))
  | _=>exact absurd (show false=true from hs) zk
 |bl i =>
  cases rx
  cases y with
  |non=>cases ry;exact PySem.EqNone.ne_bool_none (cM I q (by simp))
  |bl j=>cases ry;exact ne_bool (cM I q (congrArg not Er))
  |str j=>obtain⟨t',rfl⟩:=ry;exact PySem.EqMixed.ne_bool_str (cM I q (by simp))
  | _=>exact absurd (show false=true from hs) zk
 |int i =>
  obtain⟨t,rfl⟩:=rx
  cases y with
  |non=>cases ry;exact PySem.EqNone.ne_int_none (cM I q (by simp))
  |int j=>obtain⟨t',rfl⟩:=ry;exact ne_int (cM I q (congrArg not Ep))
  |str j=>obtain⟨t',rfl⟩:=ry;exact PySem.EqMixed.ne_int_str (cM I q (by simp))
  | _=>exact absurd (show false=true from hs) zk
 |str i =>
  obtain⟨t,rfl⟩:=rx
  cases y with
  |non=>cases ry;exact PySem.EqNone.ne_str_none (cM I q (by simp))
  |bl j=>cases ry;exact PySem.EqMixed.ne_str_bool (cM I q (by simp))
  |int j=>obtain⟨t',rfl⟩:=ry;exact PySem.EqMixed.ne_str_int (cM I q (by simp))
  |str j=>obtain⟨t',rfl⟩:=ry;exact ne_str (cM I q (congrArg not Es))
  | _=>exact absurd (show false=true from hs) zk
 |byt i =>
  obtain⟨t,rfl⟩:=rx
  cases y with
  |byt j=>obtain⟨t',rfl⟩:=ry;exact PySem.W.ne_bytes (cM I q (congrArg not Et))
  | _=>exact absurd (show false=true from hs) zk
 | _=>cases y<;>exact absurd (show false=true from hs) zk
theorem Py:OpR X (compareOp .Lt) (rI0 λi j=>.bl (decide (i<j))):=wJ λ_ _ _ _ _ _ _ q=>lt_int q
theorem Pz:OpR X (compareOp .LtE) (rI0 λi j=>.bl (decide (i<=j))):=wJ λ_ _ _ _ _ _ _ q=>le_int q
theorem PB:OpR X (compareOp .Gt) (rI0 λi j=>.bl (decide (j<i))):=wJ λ_ _ _ _ _ _ _ q=>gt_int q
theorem PJ:OpR X (compareOp .In) (λx y H Q=>∃i j,x=.str i/\y=.str j/\Q (.bl (!(Builtin.Str.occurrences j i 0 j.length 1).isEmpty)) H):=by
 intro pins s σ H x y v u Q I rx ry h;obtain⟨i,j,rfl,rfl,q⟩:=h;obtain⟨t,rfl⟩:=rx;obtain⟨t',rfl⟩:=ry;exact in_str (cM I q rfl)
theorem cu(b:Expr){op:CmpOp}(h:op≠.In:=by decide)(h2:op≠.NotIn:=by decide):behindInMarks op b=false:=by
 have e1:(op == CmpOp.In)=false:=by cases op<;>first | rfl | exact absurd rfl h
 have e2:(op == CmpOp.NotIn)=false:=by cases op<;>first | rfl | exact absurd rfl h2
 cases b<;>simp[behindInMarks,e1,e2]
theorem Eu{op:CmpOp}{r:R2}(ho:OpR X (compareOp op) r)(ha:PE X a ta)(hb:PE X b tb)(hm:behindInMarks op b=false):PE X (.Compare a [op] [b] pos) (tOp r ta tb):=by
 intro pins s σ H Q I h;exact wpAny_Compare1 (wI ha hb I h λv u s2 x y H2 I2 rx ry q=>ho pins s2 σ H2 x y v u Q I2 rx ry q) hm
def sW(t:TE):TT:=λσ H Q=>t σ H λx H'=>∃k,x=.bl k/\Q k H'
theorem Ew{op:CmpOp}{r:R2}(ho:OpR X (compareOp op) r)(ha:PE X a ta)(hb:PE X b tb)(hm:behindInMarks op b=false):PT X (.Compare a [op] [b] pos) (sW (tOp r ta tb)):=by
 intro pins s σ H Q I h
 refine wpAny_isTrue_Compare1 (thn (ha pins s σ H _ I h) λv s1 ⟨x,H1,I1,r1,q1⟩=>thn (hb pins s1 σ H1 _ I1 q1) λu s2 ⟨y,H2,I2,r2,q2⟩ =>
  thn (ho pins s2 σ H2 x y v u _ I2 r1 r2 q2) λc s3 ⟨z,H3,I3,r3,k,e,q3⟩=>?_) hm
 subst e;cases r3;exact wpAny_truthy_bool ⟨H3,I3,q3⟩
def Ex(r r':R2)(ta tb tc:TE):TE:=λσ H Q=>ta σ H λx H1=>tb σ H1 λy H2=>r x y H2 λz H3=>∃k,z=.bl k /\
 (if k=true then tc σ H3 λw' H4=>r' y w' H4 Q else Q (.bl false) H3)
theorem PK{op op':CmpOp}{r r':R2}(ho:OpR X (compareOp op) r)(ho':OpR X (compareOp op') r')(ha:PE X a ta)(hb:PE X b tb)(hc:PE X c tc)
  (hm:lastMarks [op,op'] [b,c]=false:=by with_unfolding_all rfl):PT X (.Compare a [op,op'] [b,c] pos) (sW (Ex r r' ta tb tc)):=by
 intro pins s σ H Q I h
 refine isTrue_chain (thn (ha pins s σ H _ I h) λv s1 ⟨x,H1,I1,r1,q1⟩=>test_link (thn (hb pins s1 σ H1 _ I1 q1) λu s2 ⟨y,H2,I2,r2,q2⟩ =>
  thn (ho pins s2 σ H2 x y v u _ I2 r1 r2 q2) λd s3 ⟨z,H3,I3,r3,k,e,q3⟩=>?_)) hm
 subst e;cases r3;refine wpAny_truthy_bool ?_
 cases k with
 |false =>
  obtain⟨k',e',q'⟩:=q3;cases e';exact ite_ff ⟨H3,I3,q'⟩
 |true =>
  refine ite_tt (test_last (thn (hc pins s3 σ H3 _ I3 q3) λw' s4 ⟨z',H4,I4,r4,q4⟩=>thn (ho' pins s4 σ H4 y z' u w' _ I4 r2 r4 q4) λd' s5 ⟨z2,H5,I5,r5,k2,e2,q5⟩=>?_));subst e2;cases r5;exact wpAny_truthy_bool ⟨H5,I5,q5⟩
def wN(K:PySem.W.Frag)(x:V)(H:Hp)(k:Bool):Prop :=
 match x with
 | .non=>k=false
 | .bl b=>k=b
 | .int i=>k=(i != 0)
 | .str y=>y.length<=sizeLine/\k=((y.length:Int) != 0)
 | .byt y=>y.size<=sizeLine/\k=((y.size:Int) != 0)
 | .ref p=>(∃xs,SqL K H p xs/\k = !xs.isEmpty)\/(∃xs,SqT K H p xs/\k = !xs.isEmpty)\/∃kvs,H p=some (.dK kvs)/\k = !kvs.isEmpty
 | _=>False
theorem PL{κ:Type}{kvs:List (κ×V)}{vs:List (κ×Value)}(r:KV kvs vs):(!vs.isEmpty) = !kvs.isEmpty:=by
 cases r<;>rfl
theorem Ey{xs:List V}{its:List Value}(r:aR xs its):(!its.toArray.isEmpty) = !xs.isEmpty:=by
 cases r<;>simp
theorem nC:(sizeLine:Nat)<2 ^ 63:=by rw[sizeLine_eq];decide
theorem PN:OJ X (λx H Q=>∃k,wN X.K x H k/\Q k H):=by
 intro pins s σ H x v Q I rx h;obtain⟨k,e,q⟩:=h;have hl:=nC;have hs:sizeLine=16777216:=sizeLine_eq
 cases x with
 |non =>
  cases rx;have e':k=false:=e;subst e';exact truthy_none ⟨H,I,q⟩
 |bl b =>
  cases rx;have e':k=b:=e;subst e';exact wpAny_truthy_bool ⟨H,I,q⟩
 |int i =>
  obtain⟨t,rfl⟩:=rx;have e':k=(i != 0):=e;subst e';exact PySem.P.truthy_int ⟨H,I,q⟩
 |str y =>
  obtain⟨t,rfl⟩:=rx;obtain⟨hy,e'⟩:y.length<=sizeLine/\k=((y.length:Int) != 0):=e;subst e';exact PySem.P.truthy_str (by omega) ⟨H,I.tok _,q⟩
 |byt y =>
  obtain⟨t,rfl⟩:=rx;obtain⟨hy,e'⟩:y.size<=sizeLine/\k=((y.size:Int) != 0):=e;subst e';exact PySem.W.truthy_bytes (by omega) ⟨H,I.tok _,q⟩
 |ref p =>
  cases rx;have e':(∃xs,SqL X.K H p xs/\k = !xs.isEmpty)\/(∃xs,SqT X.K H p xs/\k = !xs.isEmpty)\/∃kvs,H p=some (.dK kvs)/\k = !kvs.isEmpty:=e
  rcases e' with⟨xs,hx,e'⟩ | ⟨xs,hx,e'⟩ | ⟨kvs,hx,e'⟩
  ·subst e';obtain⟨its,r,pl,hz⟩:=I.list hx;have hlen:=r.length;exact wpAny_truthy_list pl.isList (by simp only[zq];omega) ⟨H,I.tok _,by rw[Ey r];exact q⟩
  ·subst e';obtain⟨its,r,pl,hz⟩:=I.tuple hx;have hlen:=r.length;exact truthy_tuple pl (by simp only[zq];omega) ⟨H,I.tok _,by rw[Ey r];exact q⟩
  ·subst e';obtain⟨hz,hS,vs,r,m⟩:kvs.length<=sizeLine/\(p == sysModules)=false/\∃vs,KV kvs vs/\s.heap.DictOf (fP X.prog X.w) p vs:=I.hok p _ hx;have hlen:kvs.length=vs.length:=Paired.length r;exact wpAny_truthy_dict hS m (by omega) ⟨H,I.tok _,by rw[PL r];exact q⟩
 | _=>exact(show False from e).elim
theorem PP(ha:PE X a ta)(he:∀whole,isTrue a X.env whole=(do let v <-whole;standAt a.pos;holding [v] (truthy v))):
  PT X a (λσ H Q=>ta σ H λx H'=>∃k,wN X.K x H' k/\Q k H'):=by
 intro pins s σ H Q I h;exact isTrue_plain (thn (ha pins s σ H _ I h) λv s1 ⟨x,H1,I1,r1,q1⟩=>PN pins s1 σ H1 x v Q I1 r1 q1) (he _)
theorem PQ:OpR X (binaryOp .Add) (λx y H Q=>∃i j,x=.str i/\y=.str j/\i.length+j.length<=sizeLine/\Q (.str (i++j)) H):=by
 intro pins s σ H x y v u Q I rx ry h;obtain⟨i,j,rfl,rfl,hz,q⟩:=h;obtain⟨t,rfl⟩:=rx;obtain⟨t',rfl⟩:=ry;exact add_str (λt' tk=>⟨.str (i++j),H,I.tok _,⟨_,rfl⟩,q⟩) hz
theorem vals1{x:V}{us:List Value}(r:aR [x] us):∃u,us=[u]/\RelV x u:=by
 cases r with
 |cons r1 r2=>cases r2;exact⟨_,rfl,r1⟩
theorem vals2{x y:V}{us:List Value}(r:aR [x,y] us):∃u w',us=[u,w']/\RelV x u/\RelV y w':=by
 cases r with
 |cons r1 r2 =>
  cases r2 with
  |cons r3 r4=>cases r4;exact⟨_,_,rfl,r1,r3⟩
theorem PX(hc:X.calm=true):iC X (.builtin "max") (λxs H Q=>∃i j,xs=[.int i,.int j]/\Q (.int (if j>i then j else i)) H):=by
 intro pins s σ H xs us Q I r h;obtain⟨i,j,rfl,q⟩:=h;obtain⟨u,w',rfl,⟨t,rfl⟩,⟨t',rfl⟩⟩:=vals2 r
 refine max_two_ints (I.ok.hd hc) λh' tk k=>⟨_,H,I.kept k,?_,q⟩
 by_cases hj:j>i
 ·rw[if_pos hj,if_pos hj];exact⟨_,rfl⟩
 ·rw[if_neg hj,if_neg hj];exact⟨_,rfl⟩
theorem Qa(hc:X.calm=true):iC X (.builtin "min") (λxs H Q=>∃i j,xs=[.int i,.int j]/\Q (.int (if j<i then j else i)) H):=by
 intro pins s σ H xs us Q I r h;obtain⟨i,j,rfl,q⟩:=h;obtain⟨u,w',rfl,⟨t,rfl⟩,⟨t',rfl⟩⟩:=vals2 r
 refine min_two_ints (I.ok.hd hc) λh' tk k=>⟨_,H,I.kept k,?_,q⟩
 by_cases hj:j<i
 ·rw[if_pos hj,if_pos hj];exact⟨_,rfl⟩
 ·rw[if_neg hj,if_neg hj];exact⟨_,rfl⟩
theorem Ez:iC X (.type "int") (λxs H Q=>(∃i,xs=[.int i]/\Q (.int i) H)\/∃k,xs=[.bl k]/\Q (.int (if k then 1 else 0)) H):=by
 intro pins s σ H xs us Q I r h
 rcases h with⟨i,rfl,q⟩ | ⟨k,rfl,q⟩
 ·obtain⟨u,rfl,t,rfl⟩:=vals1 r;exact call_int_int ⟨.int i,H,I,⟨_,rfl⟩,q⟩
 ·obtain⟨u,rfl,r1⟩:=vals1 r;cases r1;exact call_int_bool ⟨.int (if k then 1 else 0),H,I.tok _,⟨_,rfl⟩,q⟩
def Qc(K:PySem.W.Frag)(x:V)(H:Hp)(n:Nat):Prop :=
 match x with
 | .str y=>y.length<=sizeLine/\n=y.length
 | .byt y=>y.size<=sizeLine/\n=y.size
 | .ref p=>(∃xs,SqL K H p xs/\n=xs.length)\/∃xs,SqT K H p xs/\n=xs.length
 | _=>False
theorem call_len:iC X (.builtin "len") (λxs H Q=>∃x n,xs=[x]/\Qc X.K x H n/\Q (.int n) H):=by
 intro pins s σ H xs us Q I r h;obtain⟨x,n,rfl,e,q⟩:=h;obtain⟨u,rfl,rx⟩:=vals1 r;have hl:=nC;have hs:sizeLine=16777216:=sizeLine_eq
 cases x with
 |str y =>
  obtain⟨t,rfl⟩:=rx;obtain⟨hy,e'⟩:y.length<=sizeLine/\n=y.length:=e;subst e';exact len_str (by omega) ⟨.int _,H,I.tok _,⟨_,rfl⟩,q⟩
 |byt y =>
  obtain⟨t,rfl⟩:=rx;obtain⟨hy,e'⟩:y.size<=sizeLine/\n=y.size:=e;subst e';exact PySem.W.len_bytes (by omega) ⟨.int _,H,I.tok _,⟨_,rfl⟩,q⟩
 |ref p =>
  cases rx;have e':(∃xs,SqL X.K H p xs/\n=xs.length)\/∃xs,SqT X.K H p xs/\n=xs.length:=e
  rcases e' with⟨xs,hx,e'⟩ | ⟨xs,hx,e'⟩
  ·subst e';obtain⟨its,r',pl,hz⟩:=I.list hx;have hlen:=r'.length;exact Calls.call_len_list pl.isList (by simp only[zq];omega) ⟨.int xs.length,H,I.tok _,⟨_,by simp only[zq];rw[hlen]⟩,q⟩
  ·subst e';obtain⟨its,r',pl,hz⟩:=I.tuple hx;have hlen:=r'.length;exact len_tuple pl (by simp only[zq];omega) ⟨.int xs.length,H,I.tok _,⟨_,by simp only[zq];rw[hlen]⟩,q⟩
 | _=>exact(show False from e).elim
end
structure lU(h:Heap)(x dx C:Addr)(mA:Str->Option Value):Prop where
 obj:h.get? x=some (PySem.W.instObj C dx)
 ns:h.Ns1 dx mA
 ne:dx≠x
theorem Qd{h:Heap}{dx:Addr}{mA:Str->Option Value}(n:h.Ns1 dx mA):∃od,h.get? dx=some od/\∀name,PySem.W.lookIn name od=some (mA name):=by
 obtain⟨o,es,ep,ho,hd,hk,_,hm⟩:=n;refine⟨o,ho,λname=>?_⟩;have e:=hm name;unfold nsFind findBy at e;rw[<-Array.find?_toList] at e;unfold PySem.W.lookIn;rw[hd];dsimp only
 split
 ·rename_i y q;rw[q] at e;exact congrArg some e
 ·rename_i q;rw[q] at e
  have a:es.toList.any (·.refKey)=false:=by
   rw[List.any_eq_false];intro y hy;obtain⟨z,t,hkey⟩:=hk y (Array.mem_toList_iff.mp hy);simp[DictEntry.refKey,hkey]
  have a':¬es.toList.any (·.refKey)=true:=by rw[a];exact zk
  rw[if_neg a'];exact congrArg some e
theorem lU.look{h:Heap}{x dx C:Addr}{mA:Str->Option Value}(I:lU h x dx C mA):∃od,PySem.W.InstAt h x (PySem.W.instObj C dx) C (some od)/\∀name,PySem.W.lookIn name od=some (mA name):=
 let ⟨od,ho,hl⟩:=Qd I.ns
 ⟨od,⟨I.obj,rfl,rfl,ho⟩,hl⟩
section
variable {prog:Program}{w:World}{A:Around}{E:Value->Shared->Prop}{s:Shared}{K:PySem.W.Frag}{x dx C f:Addr}{mA:Str->Option Value}{name:Str}{v:Value}
theorem Qe{expr:Bool}{Q:Value->Shared->Prop}(X:K.In s.heap)(I:lU s.heap x dx C mA)(hg:PySem.W.plainGet K C name=true)(hh:PySem.W.hasDictIn K C=true)
  (ha:PySem.W.findIn K (.ref C) name=some none) (hv:mA name=some v) (hv':PySem.W.handedIn v=true) (h:Q v {s with toks:=s.toks+1}):
  wpAny (model prog w) A (getAttr (.ref x) name expr) Q E s:=by
 obtain⟨od,J,hl⟩:=I.look;exact PySem.W.get_value X J (PySem.W.plainGet_of hg).1 (PySem.W.findObj_own hh ha rfl (by rw[hl,hv])) hv' h
theorem Qf{pl:Sem Bool}{Q:Value×List Value->Shared->Prop}(X:K.In s.heap)(I:lU s.heap x dx C mA)(hg:PySem.W.plainGet K C name=true)
  (hf:PySem.W.findIn K (.ref C) name=some (some (.ref f))) (ht:PySem.W.isFn K (.ref f)=true) (hv:mA name=none) (h:Q (.ref f,[.ref x]) s):
  wpAny (model prog w) A (getMethod (.ref x) name pl) Q E s:=by
 obtain⟨od,J,hl⟩:=I.look;exact PySem.W.method_fn X J (PySem.W.plainGet_of hg).1 (PySem.W.plainGet_of hg).2 hf (beq_iff_eq.mp ht) (by show(PySem.W.lookIn name od).map (·.isSome)=some false;rw[hl,hv];rfl) h
theorem Qg{ns:List Str}{Q:Unit->Shared->Prop}(X:K.In s.heap)(I:lU s.heap x dx C mA)
  (hs:PySem.W.findIn K (.ref C) "__setattr__" = some (some (.builtin "object.__setattr__"))) (hp:PySem.W.plainOver K C=true) (ht:PySem.W.takerIn K C name=some none) (hh:PySem.W.hasDictIn K C=true)
  (hw:PySem.Within mA ns) (hsz:ns.length<=sizeLine)
  (h:∀h',lU h' x dx C (λy=>if y=name then some v else mA y)->Heap.SameBut dx s.heap h'->Q () {s with heap:=h',toks:=s.toks+2}):
  wpAny (model prog w) A (setAttr (.ref x) name v) Q E s:=by
 obtain⟨od,J,hl⟩:=I.look;refine PySem.W.set_plain X J hs (PySem.W.osa_open (s:={s with toks:=s.toks+1}) (r:=none) X J hp ht λb=>?_);obtain⟨cd,hc,hd'⟩:=PySem.W.any_some hh;have hx:s.heap.get? x=some ⟨.ref C,some dx,.plain,#[]⟩:=I.obj;refine za (zc (za (za (wpAny_loadPart hx (za (PySem.W.Looks.here (s:={s with toks:=s.toks+1}) (PySem.W.looks_clsIn X hc) ?_))))));rw[hd'];refine zc (a:=some dx) (za (zc (za ?_)))
 refine wpAny_nsSet1 (s:={s with toks:=s.toks+1}) I.ns λh' hn2 hs2=>?_
 obtain⟨oD,esD,epD,hoD,hdD,hcD⟩:=hn2.count (PySem.Within.cons name v hw);refine za (wpAny_lookBehind hoD (by rw[hdD];exact pastItsLine_dict (zG hcD (by rw[zE];omega))) ?_);exact zc (h _ ⟨(hs2.2 _ (Ne.symm I.ne)).trans I.obj,hn2,I.ne⟩ hs2)
theorem Qh{R:Result->Shared->Prop}{vs:List Value}{kw:List (Str×Value)}(X:K.In s.heap)(hm:PySem.W.makesIn K C=true)
  (hi:PySem.W.findIn K (.ref C) "__init__" = some (some (.ref f))) (hf:PySem.W.typeIn K (.ref f)=some (.type "function"))
  (h:codeAny (model prog w) (A.under (.builtin "type.__call__" ⟨.ref C::vs,kw⟩)) (.call (.ref f) ⟨.ref (s.heap.objs.size+1)::vs,kw⟩) (PySem.W.InitBack (s.heap.objs.size+1) R)
   {s with heap:=(s.heap.push PySem.W.emptyDict).push (PySem.W.instObj C s.heap.objs.size)}):
  codeAny (model prog w) A (.call (.ref C) ⟨vs,kw⟩) R s:=by
 obtain⟨hh,g,d,t,os⟩:=s;exact PySem.W.make_core (PySem.W.makes_of X hm) (PySem.W.looks_findIn X hi) (λself=>PySem.W.bind_fn X self hf) (.inl rfl) h
end
def eG(f:Str)(v:V):List (Str×V)->List (Str×V)
 | []=>[(f,v)]
 | (g,x)::r=>if g=f then(g,v)::r else(g,x)::eG f v r
theorem EY(f g:Str)(v:V):∀fs:List (Str×V),(eG f v fs).lookup g=if g=f then some v else fs.lookup g
 | []=>by
  show List.lookup g [(f,v)]=_
  by_cases h:g=f
  ·have hb:(g == f)=true:=beq_iff_eq.mpr h;simp only[List.lookup,hb,if_pos h]
  ·have hb:(g == f)=false:=beq_eq_false_iff_ne.mpr h;simp only[List.lookup,hb,if_neg h]
 | (k,x)::r=>by
  have ih:=EY f g v r;rw[show eG f v ((k,x)::r)=(if k=f then(k,v)::r else(k,x)::eG f v r) from rfl]
  by_cases hk:k=f
  ·rw[if_pos hk]
   by_cases h:g=k
   ·have hb:(g == k)=true:=beq_iff_eq.mpr h;simp only[List.lookup,hb,if_pos (h.trans hk)]
   ·have hb:(g == k)=false:=beq_eq_false_iff_ne.mpr h;simp only[List.lookup,hb,if_neg (λe:g=f=>h (e.trans hk.symm))]
  ·rw[if_neg hk]
   by_cases h:g=k
   ·have hb:(g == k)=true:=beq_iff_eq.mpr h;simp only[List.lookup,hb,if_neg (λe:g=f=>hk (h.symm.trans e))]
   ·have hb:(g == k)=false:=beq_eq_false_iff_ne.mpr h;simp only[List.lookup,hb];exact ih
theorem wQ(f:Str)(v:V):∀fs:List (Str×V),f∈(eG f v fs).map (·.1)/\∀g,g∈fs.map (·.1)->g∈(eG f v fs).map (·.1)
 | []=>⟨by simp[eG],λg h=>by simp at h⟩
 | (k,x)::r=>by
  obtain⟨i1,i2⟩:=wQ f v r;rw[show eG f v ((k,x)::r)=(if k=f then(k,v)::r else(k,x)::eG f v r) from rfl]
  by_cases hk:k=f
  ·rw[if_pos hk];subst hk;exact⟨by simp,λg h=>by simpa using h⟩
  ·rw[if_neg hk];refine⟨?_,λg h=>?_⟩
   ·rw[zj];exact zw _ i1
   ·rw[zj] at h ⊢
    rcases zm.mp h with e | e
    ·exact zm.mpr (.inl e)
    ·exact zw _ (i2 g e)
theorem Fb(f:Str)(v:V):∀fs:List (Str×V),(eG f v fs).length<=fs.length+1
 | []=>by simp[eG]
 | (k,x)::r=>by
  have ih:=Fb f v r;rw[show eG f v ((k,x)::r)=(if k=f then(k,v)::r else(k,x)::eG f v r) from rfl]
  by_cases hk:k=f
  ·rw[if_pos hk,zE,zE];omega
  ·rw[if_neg hk,zE,zE];omega
theorem fJ.some_of{v:V}{o:Option Value}(r:fJ (some v) o):∃u,o=some u/\RelV v u:=by
 cases o with
 |none=>exact(show False from r).elim
 |some u=>exact⟨u,rfl,r⟩
theorem fJ.none_of{o:Option Value}(r:fJ none o):o=none:=by
 cases o with
 |none=>rfl
 |some u=>exact(show False from r).elim
theorem Qi{v:V}{u:Value}(r:RelV v u):PySem.W.handedIn u=true:=by
 cases v with
 |non=>cases(show u=Value.none from r);rfl
 |bl b=>cases(show u=Value.bool b from r);rfl
 |int i=>obtain⟨t,e⟩:=(show ∃t,u=Value.int i t from r);cases e;rfl
 |str x=>obtain⟨t,e⟩:=(show ∃t,u=Value.str x t from r);cases e;rfl
 |byt b=>obtain⟨t,e⟩:=(show ∃t,u=Value.bytes b t from r);cases e;rfl
 |flt b=>obtain⟨t,e⟩:=(show ∃t,u=Value.float b t from r);cases e;rfl
 |ref a=>cases(show u=Value.ref a from r);rfl
 |ty n=>cases(show u=Value.type n from r);rfl
section
variable {P:Program}{w:World}{H H':Hp}{h h':Heap}{a C dx:Addr}{fs fs':List (Str×V)}
theorem sX(hok:HOk P w H h)(e:H a=some (.ins C dx fs)):∃mA,lU h a dx C mA/\(∀f,fJ (fs.lookup f) (mA f))/\PySem.Within mA (fs.map (·.1))/\fs.length<=1000/\H dx=some (.own a):=by
 obtain⟨d,z,ne,ob,mA,n,r,q⟩:=(show cG P w H h a (.ins C dx fs) from hok a _ e);exact⟨mA,⟨ob,n,ne⟩,r,q,z,d⟩
end
structure Cls(K:PySem.W.Frag)(C:Addr):Prop where
 pg:PySem.W.plainGet K C Str.empty=true
 hd:PySem.W.hasDictIn K C=true
 po:PySem.W.plainOver K C=true
 sa:PySem.W.findIn K (.ref C) "__setattr__" = some (some (.builtin "object.__setattr__"))
theorem Cls.get{K:PySem.W.Frag}{C:Addr}(c:Cls K C)(f:Str):PySem.W.plainGet K C f=true:=c.pg
def lV(K:PySem.W.Frag)(C:Addr)(f:Str):Prop:=PySem.W.findIn K (.ref C) f=some none
theorem lV.taker{K:PySem.W.Frag}{C:Addr}{f:Str}(n:lV K C f):PySem.W.takerIn K C f=some none:=by
 unfold PySem.W.takerIn;rw[show PySem.W.findIn K (.ref C) f=some none from n];rfl
structure Con(K:PySem.W.Frag)(C:Addr)(f:Str)(v:V)(u:Value):Prop where
 at_:PySem.W.findIn K (.ref C) f=some (some u)
 rel:RelV v u
 get:PySem.W.specialIn K u "__get__" = some none
 cp:PySem.W.copiedNames.contains f=false
structure pO(K:PySem.W.Frag)(C:Addr)(m:Str)(f:Addr):Prop where
 at_:PySem.W.findIn K (.ref C) m=some (some (.ref f))
 fn:PySem.W.isFn K (.ref f)=true
 kp:PySem.W.keepIn K (.ref f)=true
section
variable {X:Cx}{pins:List (Addr×Obj)}{σ:St}{H:Hp}{s:Shared}{a C dx:Addr}{fs:List (Str×V)}{f:Str}{v:V}{A:Around}{E:Value->Shared->Prop}
theorem Qj{b:Bool}{Q:Value->Shared->Prop}(I:Inv X pins σ H s)(e:H a=some (.ins C dx fs))(c:Cls X.K C)(n:lV X.K C f)(l:fs.lookup f=some v)
  (h:∀u s',Inv X pins σ H s'->RelV v u->Q u s'):wpAny (model X.prog X.w) A (getAttr (.ref a) f b) Q E s:=by
 obtain⟨mA,O,r,_,_,_⟩:=sX I.hok e;obtain⟨u,hu,ru⟩:=fJ.some_of (v:=v) (o:=mA f) (by rw[<-l];exact r f);exact Qe I.kIn O (c.get f) c.hd n hu (Qi ru) (h u _ (I.tok _) ru)
theorem Fd{m:Str}{g:Addr}{pl:Sem Bool}{Q:Value×List Value->Shared->Prop}(I:Inv X pins σ H s)(e:H a=some (.ins C dx fs))(c:Cls X.K C)(k:pO X.K C m g)(l:fs.lookup m=none)
  (h:Q (.ref g,[.ref a]) s):wpAny (model X.prog X.w) A (getMethod (.ref a) m pl) Q E s:=by
 obtain⟨mA,O,r,_,_,_⟩:=sX I.hok e;have hn:mA m=none:=fJ.none_of (by rw[<-l];exact r m);exact Qf I.kIn O (c.get m) k.at_ k.fn hn h
theorem Qk{y:V}{u:Value}{Q:Unit->Shared->Prop}(I:Inv X pins σ H s)(e:H a=some (.ins C dx fs))(c:Cls X.K C)(n:lV X.K C f)(hl:fs.length<1000)(ry:RelV y u)
  (h:∀s',Inv X pins σ (upd H a (.ins C dx (eG f y fs))) s'->Q () s'):wpAny (model X.prog X.w) A (setAttr (.ref a) f u) Q E s:=by
 obtain⟨mA,O,r,wi,_,ho⟩:=sX I.hok e
 have hz:(fs.map (·.1)).length<=sizeLine:=by rw[zd,sizeLine_eq];omega
 refine Qg I.kIn O c.sa c.po n.taker c.hd wi hz λh' O' sb=>h _ ?_
 have hd:∃o,h'.get? dx=some o:=let ⟨o,_,_,e',_⟩:=O'.ns;⟨o,e'⟩;refine I.write (x:=a) (e:=dx) (by rw[e];exact True.intro) (.inr ho) (λb q hb z=>(sb.2 b hb).trans z) hd ?_;refine⟨by rw[aK O.ne];exact ho,?_,O.ne,O'.obj,_,O'.ns,λg=>?_,λg hg=>?_⟩
 ·have:=Fb f y fs;omega
 ·show fJ ((eG f y fs).lookup g) (if g=f then some u else mA g);rw[EY]
  by_cases q:g=f
  ·rw[if_pos q,if_pos q];exact ry
  ·rw[if_neg q,if_neg q];exact r g
 ·by_cases q:g=f
  ·rw[q];exact(wQ f y fs).1
  ·refine(wQ f y fs).2 g (wi g λz=>hg ?_);show(if g=f then some u else mA g)=none;rw[if_neg q];exact z
theorem Inv.made(I:Inv X pins σ H s):Inv X pins σ (upd (upd H s.heap.objs.size (.own (s.heap.objs.size+1))) (s.heap.objs.size+1) (.ins C s.heap.objs.size []))
  {s with heap:=(s.heap.push PySem.W.emptyDict).push (PySem.W.instObj C s.heap.objs.size)}:=by
 have e1:(s.heap.push PySem.W.emptyDict).get? s.heap.objs.size=some PySem.W.emptyDict:=zH s.heap rfl
 have e2:((s.heap.push PySem.W.emptyDict).push (PySem.W.instObj C s.heap.objs.size)).get? (s.heap.objs.size+1)=some (PySem.W.instObj C s.heap.objs.size):=by
  have:=zH (s.heap.push PySem.W.emptyDict) (o:=PySem.W.instObj C s.heap.objs.size) rfl
  rwa [Heap.size_push] at this
 have e3:(s.heap.push PySem.W.emptyDict).Ns s.heap.objs.size (λ_=>none):=⟨PySem.W.emptyDict,#[],_,e1,rfl,(λe he=>absurd he (by simp)),λ_=>rfl⟩;have I1:=I.laid (a:=s.heap.objs.size) (o:=.own (s.heap.objs.size+1)) (h':=s.heap.push PySem.W.emptyDict) (t':=s.toks) (λb u q=>zu _ q) (zb _) ⟨_,e1⟩;refine I1.laid (a:=s.heap.objs.size+1) (o:=.ins C s.heap.objs.size []) (t':=s.toks) (λb u q=>zu _ q) (Nat.le_of_eq (Heap.size_push _ _)) ?_;have ne:s.heap.objs.size≠s.heap.objs.size+1:=zB (jg _);refine⟨by rw[aK ne,bJ],Nat.zero_le _,ne,e2,λ_=>none,(Heap.Ns1.of_empty e3).at λo q=>zu _ q,λ_=>True.intro,λy hy=>absurd rfl hy⟩
theorem Ql{prog:Program}{w:World}{env:Env}{e:Expr}{f:Str}{pos:Pos}{s:Shared}{Q:Value->Shared->Prop}(hb:attributeBase e f env (eval e env)=eval e env)
  (h:wpAny (model prog w) A (eval e env) (λo s₁=>wpAny (model prog w) A (getAttr o f true) Q E s₁) E s):wpAny (model prog w) A (eval (.Attribute e f pos) env) Q E s :=
 Attribute_any_ h (by rw[arm_eval_Attribute,hb])
end
def Qm(K:PySem.W.Frag)(ta:TE)(f:Str):TE:=λσ H Q=>ta σ H λx H1=>∃a C dx fs v,x=.ref a/\H1 a=some (.ins C dx fs)/\Cls K C/\lV K C f/\fs.lookup f=some v/\Q v H1
def Qn(K:PySem.W.Frag)(ta tv:TE)(f:Str):TS:=λD σ H=>tv σ H λy H1=>ta σ H1 λx H2=>∃a C dx fs,x=.ref a/\H2 a=some (.ins C dx fs)/\Cls K C/\lV K C f/\fs.length<1000 /\
 D.nx σ (upd H2 a (.ins C dx (eG f y fs)))
section
variable {X:Cx}{o e value:Expr}{f:Str}{pos pos' tpos:Pos}{ta tv:TE}
theorem Qo(he:PE X e ta)(hb:attributeBase e f X.env (eval e X.env)=eval e X.env):PE X (.Attribute e f pos) (Qm X.K ta f):=by
 intro pins s σ H Q I h;refine Ql hb (thn (he pins s σ H _ I h) λu s1 ⟨x,H1,I1,rx,a,C,dx,fs,v,ex,ea,c,n,l,q⟩=>?_);subst ex;obtain rfl:u=Value.ref a:=rx
 exact Qj I1 ea c n l λu' s2 I2 ru=>⟨v,H1,I2,ru,q⟩
theorem Qp(ha:PE X o ta)(hv:PE X value tv)(hs:swapsWith value (some (.Attribute o f pos')) pos.line X.env=pure false):PS X (.Assign [.Attribute o f pos'] value pos) (Qn X.K ta tv f):=by
 intro pins s σ H D I h;refine plainObj_wpAny_Assign_Attribute (thn (hv pins s σ H _ I h) λu s1 ⟨y,H1,I1,ry,q⟩=>thn (ha pins s1 σ H1 _ I1 q) λov s2 ⟨x,H2,I2,rx,a,C,dx,fs,ex,ea,c,n,l,q2⟩=>?_) hs;subst ex;obtain rfl:ov=Value.ref a:=rx
 exact Qk I2 ea c n l ry λs3 I3=>⟨σ,_,I3,q2⟩
end
section
variable {X:Cx}{pins:List (Addr×Obj)}{σ:St}{H:Hp}{s:Shared}{A:Around}{E:Value->Shared->Prop}{Q:Value->Shared->Prop}{c:Value}{b:Bool}
inductive gY (K:PySem.W.Frag) (H:Hp):V->Value->Prop where
 | non:gY K H .non (.type "NoneType")
 | bl (x:Bool):gY K H (.bl x) (.type "bool")
 | int (i:Int):gY K H (.int i) (.type "int")
 | str (x:Str):gY K H (.str x) (.type "str")
 | flt (x:UInt64):gY K H (.flt x) (.type "float")
 | lst {a:Addr}{xs:List V} (e:H a=some (.lst xs)):gY K H (.ref a) (.type "list")
 | frz {a:Addr}{o:Obj}{xs:List V} (e:H a=some (.frz o (.lst xs))):gY K H (.ref a) (.type "list")
 | tup {a:Addr}{xs:List V} (e:H a=some (.tup xs)):gY K H (.ref a) (.type "tuple")
 | dK {a:Addr}{kvs:List (Key×V)} (e:H a=some (.dK kvs)):gY K H (.ref a) (.type "dict")
 | dT {a:Addr}{kvs:List (List Key×V)} (e:H a=some (.dT kvs)):gY K H (.ref a) (.type "dict")
 | ins {a C dx:Addr}{fs:List (Str×V)} (e:H a=some (.ins C dx fs)) (cl:Cls K C) (ha:PySem.W.findIn K (.ref C) "__class__" = some (some (.builtin "object.__class__")))
   (hn:PySem.W.specialIn K (.builtin "object.__class__") "__get__" = some (some (.builtin "getset_descriptor.__get__"))) (htk:PySem.W.takesIn K (.builtin "object.__class__")=some true)
   (hm:PySem.W.mroIn K C (.type "object")=some true):gY K H (.ref a) (.ref C)
theorem pP{x:V}{u t:Value}(I:Inv X pins σ H s)(rx:RelV x u)(ty:gY X.K H x t)(e:PySem.W.kitOne X.K t c=some b)(h:∀tk,Q (.bool b) {s with toks:=tk}):
  wpAny (model X.prog X.w) A (call (.builtin "isinstance") [u,c]) Q E s:=by
 cases ty with
 |non=>cases(show u=Value.none from rx);exact PySem.W.kia_one PySem.W.kitx_none I.kIn True.intro e (λz=>nomatch z) h
 |bl y=>cases(show u=Value.bool y from rx);exact PySem.W.kia_one PySem.W.kitx_bool I.kIn True.intro e (λz=>nomatch z) h
 |int i=>obtain⟨t,q⟩:=(show ∃t,u=Value.int i t from rx);cases q;exact PySem.W.kia_one PySem.W.kitx_int I.kIn True.intro e (λz=>nomatch z) h
 |str y=>obtain⟨t,q⟩:=(show ∃t,u=Value.str y t from rx);cases q;exact PySem.W.kia_one PySem.W.kitx_str I.kIn True.intro e (λz=>nomatch z) h
 |flt y=>obtain⟨t,q⟩:=(show ∃t,u=Value.float y t from rx);cases q;exact PySem.W.kia_one PySem.W.kitx_float I.kIn True.intro e (λz=>nomatch z) h
 | @lst a xs ea =>
  cases(show u=Value.ref a from rx);obtain⟨_,_,n,_,h1⟩:=(show cG X.prog X.w H s.heap a (.lst xs) from I.hok a _ ea);exact PySem.W.kia_one PySem.W.kitx_list I.kIn ⟨_,h1,rfl⟩ e (λz=>nomatch z) h
 | @frz a ob xs ea =>
  cases(show u=Value.ref a from rx);obtain⟨_,_,_,n,_,h1⟩:=(show cG X.prog X.w H s.heap a (.frz ob (.lst xs)) from I.hok a _ ea);exact PySem.W.kia_one PySem.W.kitx_list I.kIn ⟨_,h1,rfl⟩ e (λz=>nomatch z) h
 | @tup a xs ea =>
  cases(show u=Value.ref a from rx);obtain⟨_,_,_,p⟩:=(show cG X.prog X.w H s.heap a (.tup xs) from I.hok a _ ea);obtain⟨o,h1,h2,_⟩:=p;exact PySem.W.kia_one PySem.W.kitx_tuple I.kIn ⟨o,h1,h2⟩ e (λz=>nomatch z) h
 | @dK a kvs ea =>
  cases(show u=Value.ref a from rx);obtain⟨_,_,vs,_,p⟩:=(show cG X.prog X.w H s.heap a (.dK kvs) from I.hok a _ ea);obtain⟨o,es,ep,h1,h2,_⟩:=p;exact PySem.W.kia_one PySem.W.kitx_dict I.kIn ⟨o,h1,h2.1⟩ e (λz=>nomatch z) h
 | @dT a kvs ea =>
  cases(show u=Value.ref a from rx);obtain⟨_,_,xs,_,o,es,ep,h1,h2,_⟩:=(show cG X.prog X.w H s.heap a (.dT kvs) from I.hok a _ ea);exact PySem.W.kia_one PySem.W.kitx_dict I.kIn ⟨o,h1,h2.1⟩ e (λz=>nomatch z) h
 | @ins a C dx fs ea cl ha hn htk hm =>
  cases(show u=Value.ref a from rx);obtain⟨mA,O,_⟩:=sX I.hok ea;obtain⟨od,J,_⟩:=O.look;exact PySem.W.kia_one (PySem.W.kitx_own (cl.get _) cl.hd ha hn htk hm) I.kIn J e (λz=>nomatch z) h
end
structure bG(k:Nat)(A:Around):Prop where
 hd:A.handled=none
 dp:A.depth+3 * k+5<recursionLimit
 un:A.units+16 * k+200<cLine
theorem bG.mono{j k:Nat}{A:Around}(r:bG k A)(h:j<=k):bG j A:=⟨r.hd,by have:=r.dp;omega,by have:=r.un;omega⟩
theorem bG.deeper{k:Nat}{A:Around}(r:bG (k+1) A)(env:Env):bG k (A.deeper env):=
 ⟨r.hd,by have:=r.dp;show A.depth+1+3 * k+5<_;omega,by have:=r.un;show A.units+3+16 * k+200<_;omega⟩
theorem Qq{A:Around}{C:Addr}{us:List Value}{kw:List (Str×Value)}:(A.under (.builtin "type.__call__" ⟨.ref C::us,kw⟩)).depth=A.depth+1:=by
 first | rfl | simp[Around.under,Code.weight,Code.isCreation,Code.isGuard,Code.isCaller,Code.frames,Code.isFrame,guardIds]
theorem Qs{A:Around}{C:Addr}{us:List Value}{kw:List (Str×Value)}:(A.under (.builtin "type.__call__" ⟨.ref C::us,kw⟩)).units=A.units+1:=by
 first | rfl | simp[Around.under,Code.cUnits,Code.frames,Code.isFrame]
theorem bG.make{k:Nat}{A:Around}(r:bG (k+1) A)(C:Addr)(us:List Value)(kw:List (Str×Value)):bG k (A.under (.builtin "type.__call__" ⟨.ref C::us,kw⟩)):=
 ⟨r.hd,by have:=r.dp;rw[Qq];omega,by have:=r.un;rw[Qs];omega⟩
theorem bG.depth{k:Nat}{A:Around}(r:bG k A):A.depth<recursionLimit:=by have:=r.dp;omega
theorem bG.units{k:Nat}{A:Around}(r:bG k A):A.units+64<cLine:=by have:=r.un;omega
def pQ:TA:=λ_ H Q=>Q [] H
def sY(ta:TE)(tr:TA):TA:=λσ H Q=>ta σ H λx H1=>tr σ H1 λxs H2=>Q (x::xs) H2
section
variable {X:Cx}{e:Expr}{es:List Expr}{te:TE}{t:TA}{pos:Pos}
theorem jw:PA X [] pQ:=λ_ _ _ _ H Q I h=>Calls.spliced_nil ⟨[],H,I,.nil,h⟩
theorem gZ(ha:PE X e te)(hr:PA X es t)(hs:starEach (e::es) X.env=(false,eval e X.env)::starEach es X.env:=by rfl):PA X (e::es) (sY te t):=by
 intro pos pins s σ H Q I h;rw[hs];show wpAny _ _ (spliced ((false,eval e X.env)::backTo pos (starEach es X.env))) _ _ s;refine Calls.spliced_cons (thn (ha pins s σ H _ I h) λu s1 ⟨x,H1,I1,r1,q1⟩=>?_)
 exact thn (hr pos pins s1 σ H1 _ I1 q1) λus s2 ⟨xs,H2,I2,r2,q2⟩=>⟨x::xs,H2,I2,.cons r1 r2,q2⟩
def Qt(t:TA):TE:=λσ H Q=>t σ H λxs H1=>xs.length<=sizeLine/\∀p,H1 p=none->Q (.ref p) (upd H1 p (.tup xs))
def Qu(t:TA):TE:=λσ H Q=>t σ H λxs H1=>xs.length<=sizeLine/\∀p,H1 p=none->Q (.ref p) (upd H1 p (.lst xs))
theorem Qv{x1}(h:PA X es t):PE X (.Tuple es x1 pos) (Qt t):=by
 intro pins s σ H Q I hq;refine wpAny_Tuple_spliced (thn (h pos pins s σ H _ I hq) λus s1 ⟨xs,H1,I1,r,z,q⟩=>⟨by rw[<-r.length];exact z,?_⟩);have hf:H1 s1.heap.objs.size=none:=I1.hok.fresh (zb _);refine⟨.ref s1.heap.objs.size,upd H1 s1.heap.objs.size (.tup xs),I1.laid (t':=s1.toks) (λb u e=>zu _ e) (zb _) ?_,rfl,q _ hf⟩;exact⟨z,us,r,⟨_,zH _ rfl,rfl,_,rfl⟩⟩
theorem Qw(h:PA X es t):PE X (.List es pos) (Qu t):=by
 intro pins s σ H Q I hq;refine wpAny_List_spliced (thn (h pos pins s σ H _ I hq) λus s1 ⟨xs,H1,I1,r,z,q⟩=>⟨by rw[<-r.length];exact z,?_⟩);have hf:H1 s1.heap.objs.size=none:=I1.hok.fresh (zb _);refine⟨.ref s1.heap.objs.size,upd H1 s1.heap.objs.size (.lst xs),I1.laid (t':=s1.toks) (λb u e=>zu _ e) (zb _) ?_,rfl,q _ hf⟩;exact⟨z,us,0,r,zH _ rfl⟩
end
abbrev Sp:=List V->Hp->VK->XK->Prop
abbrev CXT:=List Env->Hp->Shared->XK->Value->Shared->Prop
structure kJ(P:Program)(w:World)(K:PySem.W.Frag)(mg:Str->Option Value)(base:Heap)(A:Around)(outer:List Env)(s:Shared)(H:Hp):Prop where
 frames:A.frames=some outer
 mod:Mod K mg base
 bs:∀b o,base.get? b=some o->s.heap.get? b=some o/\H b=none
 bsz:base.objs.size<=s.heap.objs.size
 funs:s.heap.FunFrames base outer
 frf:∀b∈frs outer,H b=none
 hok:HOk P w H s.heap
 bare:AllBare s.gens
def CE(outer:List Env)(P:Program)(w:World)(H:Hp)(s:Shared)(Q:VK)(u:Value)(s':Shared):Prop :=
 ∃v H',s'.os=s.os/\AllBare s'.gens/\Un (frs outer) [] H H' s.heap s'.heap/\HOk P w H' s'.heap/\RelV v u/\Q v H'
def CR(CX:CXT)(outer:List Env)(P:Program)(w:World)(H:Hp)(s:Shared)(Q:VK)(E:XK)(r:Result)(s':Shared):Prop :=
 match r with
 | .ok (.ret u)=>CE outer P w H s Q u s'
 | .ok _=>False
 | .error e=>CX outer H s E e s'
structure dJ(P:Program)(w:World)(K:PySem.W.Frag)(mg:Str->Option Value)(base:Heap)(CX:CXT)(k:Nat)(f:Addr)(fd:FuncData)(ps:List Str)(sp:Sp):Prop where
 len:∀vs H Q E,sp vs H Q E->vs.length=ps.length
 run:∀(A:Around) (outer:List Env) (s:Shared) (H:Hp) (args:Args) (us:List Value) (vs:List V) (Q:VK) (E:XK),bG k A->kJ P w K mg base A outer s H->BindsTo s fd args (ps.zip us)->aR vs us->sp vs H Q E ->
  codeAny (model P w) A (.call (.ref f) args) (CR CX outer P w H s Q E) s
theorem dJ.imp{P:Program}{w:World}{K:PySem.W.Frag}{mg:Str->Option Value}{base:Heap}{CX:CXT}{k:Nat}{f:Addr}{fd:FuncData}{ps:List Str}{sp sp':Sp}(F:dJ P w K mg base CX k f fd ps sp)
  (h:∀vs H Q E,sp' vs H Q E->sp vs H Q E):dJ P w K mg base CX k f fd ps sp' :=
 ⟨λvs H Q E q=>F.len vs H Q E (h _ _ _ _ q),λA outer s H args us vs Q E hr he hb hv hs=>F.run A outer s H args us vs Q E hr he hb hv (h _ _ _ _ hs)⟩
theorem kJ.make{P:Program}{w:World}{K:PySem.W.Frag}{mg:Str->Option Value}{base:Heap}{A:Around}{outer:List Env}{s:Shared}{H:Hp}(e:kJ P w K mg base A outer s H)(C:Addr)(us:List Value)(kw:List (Str×Value)):
  kJ P w K mg base (A.under (.builtin "type.__call__" ⟨.ref C::us,kw⟩)) outer s H:=⟨by first | exact e.frames | (simpa [Around.under,Code.envs,Code.isFrame,pushEnvs] using e.frames),e.mod,e.bs,e.bsz,e.funs,e.frf,e.hok,e.bare⟩
section
variable {X:Cx}{pins:List (Addr×Obj)}{σ:St}{H:Hp}{s s':Shared}
theorem Inv.env0(I:Inv X pins σ H s):kJ X.prog X.w X.K X.mg X.base X.A X.stack s H :=
 ⟨I.ok.frames,I.ok.mod,I.bs,zG I.ok.bsz I.sz,I.stack,I.stkFree,I.hok,I.bare⟩
theorem Inv.after{Q:VK}{u:Value}(I:Inv X pins σ H s)(h:CE X.stack X.prog X.w H s Q u s'):EP X pins σ Q u s':=by
 obtain⟨v,H',os,bare,un,hok,r,q⟩:=h;obtain⟨hh,g,d,t,os'⟩:=s';obtain rfl:os'=s.os:=os;exact⟨v,H',I.call (h':=hh) (g':=g) (d':=d) (t':=t) (ch:=[]) un hok bare (λb z=>absurd z (by simp)),r,q⟩
end
def wR(sp:Sp)(dvs:List V)(E:XK)(t:TA):TE:=λσ H Q=>t σ H λvs H1=>sp (vs++dvs) H1 Q E
def wU(C:Addr)(m:Str)(sp:Sp)(dvs:List V)(E:XK)(ta:TE)(t:TA):TE:=λσ H Q=>ta σ H λx H1=>∃a dx fs,x=.ref a/\H1 a=some (.ins C dx fs)/\fs.lookup m=none /\
 t σ H1 λvs H2=>sp (x::(vs++dvs)) H2 Q E
def Fe(C:Addr)(sp:Sp)(dvs:List V)(E:XK)(t:TA):TE:=λσ H Q=>t σ H λvs H1=>∀x dx,H1 x=none->H1 dx=none->dx≠x ->
 sp (.ref x::(vs++dvs)) (upd (upd H1 dx (.own x)) x (.ins C dx [])) (λv H2=>v=.non/\Q (.ref x) H2) E
def Binds(K:PySem.W.Frag)(fd:FuncData)(ps:List Str)(ds:List Value):Prop :=
 ∀(s:Shared) (us:List Value),K.In s.heap->(us++ds).length=ps.length->BindsTo s fd ⟨us,[]⟩ (ps.zip (us++ds))
theorem Binds.all{K:PySem.W.Frag}{fd:FuncData}{ps:List Str}(h:∀us:List Value,us.length=ps.length->bindArgs fd ⟨us,[]⟩=pure (ps.zip us)):Binds K fd ps []:=λs us _ hl=>by
 rw[zS] at hl ⊢;exact .of_eq (h us hl)
def lW(CX:CXT)(X:Cx)(E:XK):Prop:=∀(pins:List (Addr×Obj)) (σ:St) (H:Hp) (s:Shared) (e:Value) (s':Shared),Inv X pins σ H s->CX X.stack H s E e s'->X.xe e s'
section
variable {X:Cx}{CX:CXT}{k:Nat}{f C:Addr}{fd:FuncData}{ps:List Str}{sp:Sp}{dvs:List V}{ds:List Value}{E:XK}{x m:Str}{p pos apos:Pos}{e o:Expr}{es:List Expr}{ta:TE}{t:TA}
theorem wV{pins:List (Addr×Obj)}{σ:St}{H:Hp}{s:Shared}{Q:VK}{us:List Value}{vs:List V}(F:dJ X.prog X.w X.K X.mg X.base CX k f fd ps sp)(hr:bG k X.A)(hb:Binds X.K fd ps ds)(hd:aR dvs ds)(hx:lW CX X E)
  (I:Inv X pins σ H s) (r:aR vs us) (h:sp (vs++dvs) H Q E):wpAny (model X.prog X.w) X.A (call (.ref f) us) (EP X pins σ Q) X.xe s:=by
 have r2:aR (vs++dvs) (us++ds):=r.append hd
 have hl:(us++ds).length=ps.length:=by rw[<-r2.length];exact F.len _ _ _ _ h
 refine wpAny_call (codeAny_mono (F.run X.A X.stack s H ⟨us,[]⟩ (us++ds) (vs++dvs) Q E hr I.env0 (hb s us I.kIn hl) r2 h) λr s' hq=>?_)
 cases r with
 |error e=>exact hx pins σ H s e s' I hq
 |ok fl =>
  cases fl with
  |ret u=>exact I.after hq
  |next=>exact False.elim hq
  |brk=>exact False.elim hq
  |cont=>exact False.elim hq
theorem Qx(F:dJ X.prog X.w X.K X.mg X.base CX k f fd ps sp)(hr:bG k X.A)(hg:Gl X x)(hm:X.mg x=some (.ref f))(hk:PySem.W.keepIn X.K (.ref f)=true)(hb:Binds X.K fd ps ds)(hd:aR dvs ds)(hx:lW CX X E)
  (ha:PA X (e::es) t) (hdb:(x == ("__debug__":Str))=false:=by decide) (he:starEach (e::es) X.env=(false,eval e X.env)::starEach es X.env:=by rfl) (hpl:(backTo pos (starEach es X.env)).any (·.1)=false:=by rfl):
  PE X (.Call (.Name x p) (e::es) [] pos) (wR sp dvs E t):=by
 intro pins s σ H Q I h;refine wpAny_Call_Name_kw (wF I hg hm ?_ hdb);refine PySem.W.callWith_K (h₀:=X.base) I.ok.mod.kin hk (thn (ha pos pins s σ H _ I h) λus s1 ⟨vs,H1,I1,r,q⟩=>⟨I1.kIn,?_⟩) he hpl;exact wV F hr hb hd hx I1 r q
theorem Qy{pl:Sem Bool}(he:PE X o ta)(c:Cls X.K C)(hm:pO X.K C m f)(F:dJ X.prog X.w X.K X.mg X.base CX k f fd ps sp)(hr:bG k X.A)(hb:Binds X.K fd ps ds)(hd:aR dvs ds)(hx:lW CX X E)(ha:PA X (e::es) t)
  (hst:starEach (e::es) X.env=(false,eval e X.env)::starEach es X.env:=by rfl) (hpl:(backTo pos (starEach es X.env)).any (·.1)=false:=by rfl)
  (ht:eval (.Call (.Attribute o m apos) (e::es) [] pos) X.env=(do
   let ov <-eval o X.env
   standAt apos.atName
   let (f,first) <-holding [ov] (getMethod ov m pl)
   callWith pos f first (backTo pos (starEach (e::es) X.env)) (backToKw pos (keywordEach [] X.env))):=by rfl):
  PE X (.Call (.Attribute o m apos) (e::es) [] pos) (wU C m sp dvs E ta t):=by
 intro pins s σ H Q I h;refine PySem.W.methodCall_KW (pl:=pl) (thn (he pins s σ H _ I h) λu s1 ⟨x,H1,I1,rx,a,dx,fs,ex,ea,l,q⟩=>?_) ht;subst ex;obtain rfl:u=Value.ref a:=rx;refine Fd I1 ea c hm l ?_;refine PySem.W.callWith_K (first:=[.ref a]) (h₀:=X.base) I.ok.mod.kin hm.kp (thn (ha pos pins s1 σ H1 _ I1 q) λus s2 ⟨vs,H2,I2,r,q2⟩=>⟨I2.kIn,?_⟩) hst hpl;exact wV (us:=.ref a::us) (vs:=.ref a::vs) F hr hb hd hx I2 (.cons rfl r) q2
theorem Qz{pl:Sem Bool}(he:PE X o ta)(c:Cls X.K C)(hm:pO X.K C m f)(F:dJ X.prog X.w X.K X.mg X.base CX k f fd ps sp)(hr:bG k X.A)(hb:Binds X.K fd ps ds)(hd:aR dvs ds)(hx:lW CX X E)
  (ht:eval (.Call (.Attribute o m apos) [] [] pos) X.env=(do
   let ov <-eval o X.env
   standAt apos.atName
   let (f,first) <-holding [ov] (getMethod ov m pl)
   callWith pos f first (backTo pos (starEach [] X.env)) (backToKw pos (keywordEach [] X.env))):=by rfl):
  PE X (.Call (.Attribute o m apos) [] [] pos) (wU C m sp dvs E ta pQ):=by
 intro pins s σ H Q I h;refine PySem.W.methodCall_KW (pl:=pl) (thn (he pins s σ H _ I h) λu s1 ⟨x,H1,I1,rx,a,dx,fs,ex,ea,l,q⟩=>?_) ht;subst ex;obtain rfl:u=Value.ref a:=rx;refine Fd I1 ea c hm l ?_;exact PySem.W.callWith_K0 (first:=[.ref a]) I1.kIn hm.kp (wV (us:=[.ref a]) (vs:=[.ref a]) F hr hb hd hx I1 (.cons rfl .nil) q)
structure Mk(K:PySem.W.Frag)(C f:Addr):Prop where
 makes:PySem.W.makesIn K C=true
 init:PySem.W.findIn K (.ref C) "__init__" = some (some (.ref f))
 fn:PySem.W.isFn K (.ref f)=true
 kp:PySem.W.keepIn K (.ref C)=true
theorem QB{pins:List (Addr×Obj)}{σ:St}{H:Hp}{s:Shared}{Q:VK}{us:List Value}{vs:List V}(M:Mk X.K C f)(F:dJ X.prog X.w X.K X.mg X.base CX k f fd ps sp)(hr:bG (k+1) X.A)(hb:Binds X.K fd ps ds)(hd:aR dvs ds)
  (hx:lW CX X E) (I:Inv X pins σ H s) (r:aR vs us)
  (h:∀x dx,H x=none->H dx=none->dx≠x->sp (.ref x::(vs++dvs)) (upd (upd H dx (.own x)) x (.ins C dx [])) (λv H2=>v=.non/\Q (.ref x) H2) E):
  wpAny (model X.prog X.w) X.A (call (.ref C) us) (EP X pins σ Q) X.xe s:=by
 have hq:=h (s.heap.objs.size+1) s.heap.objs.size (I.hok.fresh (Nat.le_succ _)) (I.hok.fresh (zb _)) (zB (jg _));have I2:=Inv.made (C:=C) I;have r2:aR (V.ref (s.heap.objs.size+1)::(vs++dvs)) (Value.ref (s.heap.objs.size+1)::(us++ds)):=.cons rfl (r.append hd)
 have hl:(Value.ref (s.heap.objs.size+1)::us++ds).length=ps.length:=by
  have e:=r2.length;rw[F.len _ _ _ _ hq] at e;exact e.symm
 refine wpAny_call (Qh (f:=f) I.kIn M.makes M.init (beq_iff_eq.mp M.fn) (codeAny_mono (F.run _ X.stack _ _ ⟨Value.ref (s.heap.objs.size+1)::us,[]⟩ (Value.ref (s.heap.objs.size+1)::(us++ds)) _ _ E (hr.make C us [])
  (I2.env0.make C us []) (hb _ (Value.ref (s.heap.objs.size+1)::us) I2.kIn hl) r2 hq) λr s' hq'=>?_))
 cases r with
 |error e=>exact hx pins σ _ _ e s' I2 hq'
 |ok fl =>
  cases fl with
  |ret u =>
   obtain⟨v,H',I3,rv,ev,q3⟩:=I2.after hq';subst ev;exact⟨rv,⟨V.ref (s.heap.objs.size+1),H',I3,rfl,q3⟩⟩
  |next=>exact False.elim hq'
  |brk=>exact False.elim hq'
  |cont=>exact False.elim hq'
theorem QC(M:Mk X.K C f)(F:dJ X.prog X.w X.K X.mg X.base CX k f fd ps sp)(hr:bG (k+1) X.A)(hg:Gl X x)(hm:X.mg x=some (.ref C))(hb:Binds X.K fd ps ds)(hd:aR dvs ds)(hx:lW CX X E)
  (ha:PA X (e::es) t) (hdb:(x == ("__debug__":Str))=false:=by decide) (he:starEach (e::es) X.env=(false,eval e X.env)::starEach es X.env:=by rfl) (hpl:(backTo pos (starEach es X.env)).any (·.1)=false:=by rfl):
  PE X (.Call (.Name x p) (e::es) [] pos) (Fe C sp dvs E t):=by
 intro pins s σ H Q I h;refine wpAny_Call_Name_kw (wF I hg hm ?_ hdb);refine PySem.W.callWith_K (h₀:=X.base) I.ok.mod.kin M.kp (thn (ha pos pins s σ H _ I h) λus s1 ⟨vs,H1,I1,r,q⟩=>⟨I1.kIn,?_⟩) he hpl;exact QB M F hr hb hd hx I1 r q
end
section
variable {X:Cx}{CX:CXT}{k:Nat}{f C:Addr}{fd:FuncData}{ps ks:List Str}{sp:Sp}{E:XK}{x m:Str}{p pos apos kpos:Pos}{e o:Expr}{es:List Expr}{kws:List Keyword}{te ta:TE}{t tk:TA}{nm:Option Str}
structure Qzg(K:PySem.W.Frag)(fd:FuncData)(ps ks:List Str)(g:List Value->List Value->List Value)(gV:List V->List V->List V):Prop where
 to:∀(s:Shared) (us ws:List Value),K.In s.heap->(g us ws).length=ps.length->BindsTo s fd ⟨us,ks.zip ws⟩ (ps.zip (g us ws))
 rel:∀{vs:List V}{us:List Value}{zs:List V}{ws:List Value},aR vs us->aR zs ws->aR (gV vs zs) (g us ws)
variable {g:List Value->List Value->List Value}{gV:List V->List V->List V}
end
structure bN(N P:List Str)(sc:Scope):Prop where
 kind:sc.kind=.function
 co:sc.isCoroutine=false
 gen:sc.isGenerator=false
 nd:N.Nodup
 pre:N.take P.length=P
 par:∀x∈P,sc.names.lookup x=some .local\/sc.names.lookup x=some .cell
 nofree:∀y∈sc.names,y.2≠.free
theorem Ff{kindOf:Str->Option NameKind}{x:Str}:∀{binds:List (Str×Value)}{m:Str->Option Value},(∀v,(x,v)∉binds)->bindL kindOf binds m x=m x
 | [],_,_=>rfl
 | (n,v)::r,m,h=>by
  unfold bindL;rw[Ff λw hw=>h w (zw _ hw)]
  split
  ·have:x≠n:=by rintro rfl;exact h v zr
   simp[this]
  ·rfl
theorem Fg{kindOf:Str->Option NameKind}{x:Str}:∀{binds:List (Str×Value)}{m:Str->Option Value},(∀v,(x,v)∉binds)->bindC kindOf binds m x=m x
 | [],_,_=>rfl
 | (n,v)::r,m,h=>by
  unfold bindC;rw[Fg λw hw=>h w (zw _ hw)]
  split
  ·rfl
  ·have:x≠n:=by rintro rfl;exact h v zr
   simp[this]
theorem Fi{kindOf:Str->Option NameKind}{x:Str}{v:Value}:∀{P:List Str}{vs:List Value}{i:Nat}{m:Str->Option Value},P.Nodup->P[i]?=some x->vs[i]?=some v->kindOf x=some .local ->
  bindL kindOf (P.zip vs) m x=some v
 | [],_,_,_,_,h,_,_=>by simp at h
 | _::_,[],_,_,_,_,h,_=>by simp at h
 |p::P,w::vs,0,m,nd,h1,h2,hk=>by
  simp at h1 h2;subst h1;subst h2
  show bindL kindOf ((p,w)::P.zip vs) m p=_;unfold bindL;rw[Ff λv hv=>(List.nodup_cons.mp nd).1 (List.of_mem_zip hv).1,if_pos hk];simp
 |p::P,w::vs,i+1,m,nd,h1,h2,hk=>by
  show bindL kindOf ((p,w)::P.zip vs) m x=_;unfold bindL;exact Fi (i:=i) (List.nodup_cons.mp nd).2 (by simpa using h1) (by simpa using h2) hk
theorem Fj{kindOf:Str->Option NameKind}{x:Str}{v:Value}:∀{P:List Str}{vs:List Value}{i:Nat}{m:Str->Option Value},P.Nodup->P[i]?=some x->vs[i]?=some v->kindOf x≠some .local ->
  bindC kindOf (P.zip vs) m x=some v
 | [],_,_,_,_,h,_,_=>by simp at h
 | _::_,[],_,_,_,_,h,_=>by simp at h
 |p::P,w::vs,0,m,nd,h1,h2,hk=>by
  simp at h1 h2;subst h1;subst h2
  show bindC kindOf ((p,w)::P.zip vs) m p=_;unfold bindC;rw[Fg λv hv=>(List.nodup_cons.mp nd).1 (List.of_mem_zip hv).1,if_neg hk];simp
 |p::P,w::vs,i+1,m,nd,h1,h2,hk=>by
  show bindC kindOf ((p,w)::P.zip vs) m x=_;unfold bindC;exact Fj (i:=i) (List.nodup_cons.mp nd).2 (by simpa using h1) (by simpa using h2) hk
def start(N:List Str)(vs:List V):St:=vs.map some++List.replicate (N.length - vs.length) none
def iD(CX:CXT)(P:Program)(w:World)(K:PySem.W.Frag)(mg:Str->Option Value)(base:Heap)(N:List Str)(qual:Str)(scope:Scope)(f:Addr)(cd:Value)(A:Around)(outer:List Env)(s:Shared)(H:Hp)(E:XK):Cx where
 prog:=P
 w:=w
 K:=K
 mg:=mg
 base:=base
 A:=A.deeper (envOfC qual scope s.heap.objs.size f cd)
 N:=N
 s₀:=s
 H₀:=H
 env:=envOfC qual scope s.heap.objs.size f cd
 outer:=outer
 stack:=envOfC qual scope s.heap.objs.size f cd::outer
 ex:=[]
 calm:=true
 fn:=λ_=>true
 pn:=[]
 xe:=λe s'=>wpAny (model P w) (A.deeper (envOfC qual scope s.heap.objs.size f cd)) (leaving (envOfC qual scope s.heap.objs.size f cd) e) (λ_ s''=>CX outer H s E e s'') (λe' s''=>CX outer H s E e' s'') s'
theorem Fo{sc:Scope}{n:Nat}{x:Str}(h:sc.names.lookup x=some .cell):∃c,(cellsFrom n sc.names []).lookup x=some c:=by
 have q:=PySem.W.cellsFrom_some sc.names n [] (.inl h);exact Option.isSome_iff_exists.mp q
theorem QD{CX:CXT}{P:Program}{w:World}{K:PySem.W.Frag}{mg:Str->Option Value}{base:Heap}{N ps:List Str}{qual:Str}{scope:Scope}{f:Addr}{cd:Value}{A:Around}{outer:List Env}{s s1:Shared}{H:Hp}{E:XK}{us:List Value}{vs:List V}
  (S:bN N ps scope) (hd:A.handled=none) (e0:kJ P w K mg base A outer s H) (hl:vs.length=ps.length) (r:aR vs us)
  (x:InCallC s s.heap.objs.size (bindL (envOfC qual scope s.heap.objs.size f cd).kindOf (ps.zip us) λ_=>none) (cellsFrom (s.heap.objs.size+1) scope.names []) (bindC (envOfC qual scope s.heap.objs.size f cd).kindOf (ps.zip us) λ_=>none) s1):
  Inv (iD CX P w K mg base N qual scope f cd A outer s H E) [] (start N vs) H s1:=by
 have hpl:ps.length<=N.length:=by have:=congrArg List.length S.pre;rw[List.length_take] at this;omega
 obtain⟨h1,tk,rfl,hk⟩:=x.done
 have noA:∀b:Addr,b∉(iD CX P w K mg base N qual scope f cd A outer s H E).ex:=λb z=>absurd (show b∈([]:List Addr) from z) (by simp)
 refine⟨⟨e0.mod,S.kind,rfl,rfl,zb _,λy z c h1 h2=>?_,λy hy=>?_,λy c _ h=>?_,λ_=>hd,Around.frames_deeper e0.frames,.inr ⟨rfl,rfl⟩,λb z=>absurd z (noA b),e0.bs,e0.bsz,λb _ _=>noA b,λb z=>absurd z (noA b),e0.funs,e0.frf⟩,
  rfl,e0.bare,Un.kept hk,⟨_,x.toInCall.ns,λi y v h1 h2 h3=>?_⟩,λy c h=>⟨_,x.cell y c h⟩,e0.hok.fresh (zb _),λy c h=>?_,λp hp=>absurd (show p∈([]:List (Addr×Obj)) from hp) (by simp),e0.hok.kept hk,?_⟩
 ·exact name_of_addr x.apart (PySem.mem_of_lookup h1) (PySem.mem_of_lookup h2)
 ·have hy:scope.names.lookup y=some .cell\/scope.names.lookup y=some .free:=hy
  rcases hy with hy | hy
  ·exact Fo hy
  ·exact absurd rfl (S.nofree _ (PySem.mem_of_lookup hy))
 ·exact Nat.le_of_lt (x.above y c (PySem.mem_of_lookup h))
 ·have hi:i<vs.length:=by
   unfold start at h2
   by_cases hi:i<vs.length
   ·exact hi
   ·rw[zI (by simpa using hi)] at h2;rw[List.getElem?_replicate] at h2
    split at h2<;>cases h2
  have ha:vs[i]?=some v:=by
   unfold start at h2;rw[zv (by simpa using hi),zl] at h2
   cases e:vs[i]? with
   |none=>rw[e] at h2;cases h2
   |some a=>rw[e] at h2;cases h2;rfl
  obtain⟨u,hu,rv⟩:=r.get ha
  have hp:ps[i]?=some y:=by
   rw[<-S.pre,List.getElem?_take_of_lt (by omega)];exact h1
  have ndP:ps.Nodup:=by rw[<-S.pre];exact S.nd.sublist (List.take_sublist _ _)
  refine⟨u,rv,?_⟩
  rcases S.par y (zy hp) with k | k
  ·exact .inl ⟨k,Fi ndP hp hu k⟩
  ·obtain⟨c,e⟩:=Fo (n:=s.heap.objs.size+1) k;refine .inr ⟨.inl k,c,e,?_⟩;have q:=x.cell y c e;rw[Fj ndP hp hu (by show scope.names.lookup y≠_;rw[k];decide)] at q;exact q
 ·exact e0.hok.fresh (Nat.le_of_lt (x.above y c (PySem.mem_of_lookup h)))
 ·unfold start;show _=N.length;rw[ze,zd,List.length_replicate];omega
theorem QF{CX:CXT}{P:Program}{w:World}{K:PySem.W.Frag}{mg:Str->Option Value}{base:Heap}{k:Nat}{f:Addr}{name qual:Str}{params:Arguments}{body:List Stmt}{scope:Scope}{dV kV doc pm cdv ct oc:Value}{an od:Option Addr}
  {osl:Array (Option Value)}{N ps:List Str}{sp:Sp} (lk:K.lookup f=some ⟨oc,od,.func (PySem.W.fnOf name qual params body scope dV kV doc pm an cdv ct),osl⟩) (hcd:PySem.W.codeIn K cdv qual=true) (S:bN N ps scope)
  (len:∀vs H Q E,sp vs H Q E->vs.length=ps.length)
  (hbody:∀(A:Around) (outer:List Env) (s:Shared) (H:Hp) (vs:List V) (Q:VK) (E:XK),bG k (A.deeper (envOfC qual scope s.heap.objs.size f cdv))->sp vs H Q E ->
   ∃t,PSs (iD CX P w K mg base N qual scope f cdv A outer s H E) body t/\t {nx:=λ_ H'=>Q .non H',rt:=Q} (start N vs) H):
  dJ P w K mg base CX (k+1) f (PySem.W.fnOf name qual params body scope dV kV doc pm an cdv ct) ps sp:=by
 refine⟨len,λA outer s H args us vs Q E hr e0 hb r hsp=>?_⟩;have hl:=len _ _ _ _ hsp
 have KX:K.In s.heap:=e0.mod.kin.keeps λb o e=>(e0.bs b o e).1
 have lim:s.heap.NoLimit:=e0.mod.nolimit.keeps λb o e=>(e0.bs b o e).1
 have hkind:∀y∈ps.zip us,scope.names.lookup y.1=some .local\/(scope.names.lookup y.1=some .cell/\((cellsFrom (s.heap.objs.size+1) scope.names []).lookup y.1).isSome=true):=λ⟨n,v⟩ hy=>by
  rcases S.par n (List.of_mem_zip hy).1 with q | q
  ·exact .inl q
  ·exact .inr ⟨q,PySem.W.cellsFrom_some _ _ _ (.inl q)⟩
 refine codeAny_call_function hr.depth (KX _ _ lk) rfl S.co S.gen rfl (PySem.W.codeRec_of KX hcd) (hb _ _ _ _ ?_)
 refine wpAny_newFunctionEnv_cells S.kind hkind λenv he s1 x=>?_
 subst he;refine⟨lim.keeps x.toInCall.keep,codeAny_func ?_⟩;obtain⟨t,ht,hq⟩:=hbody A outer s H vs Q E (hr.deeper _) hsp;have I:Inv (iD CX P w K mg base N qual scope f cdv A outer s H E) [] (start N vs) H s1:=QD S hr.hd e0 hl r x
 refine zR (ht [] s1 (start N vs) H _ I hq) (λfl s' hs=>?_) λe s' hs=>hs
 have fin:∀{σ':St}{H':Hp}{v:V}{u:Value},Inv (iD CX P w K mg base N qual scope f cdv A outer s H E) [] σ' H' s'->RelV v u->Q v H'->CE outer P w H s Q u s' :=
  λ{σ' H' v u} J rv q=>⟨v,H',J.os,J.bare,J.base,J.hok,rv,q⟩
 cases fl with
 |ret u =>
  obtain⟨v,σ',H',J,rv,q⟩:=hs;exact fin J rv q
 |next =>
  obtain⟨σ',H',J,q⟩:=hs;exact fin (v:=V.non) (u:=Value.none) J rfl q
 |brk =>
  obtain⟨_,_,_,q⟩:=hs;exact False.elim q
 |cont =>
  obtain⟨_,_,_,q⟩:=hs;exact False.elim q
section
variable {X:Cx}{x:Str}{p pos:Pos}{e:Expr}{es:List Expr}{t:TA}{id T:String}{r:List V->Hp->VK->Prop}
def tCB(r:List V->Hp->VK->Prop)(t:TA):TE:=λσ H Q=>t σ H λvs H1=>r vs H1 Q
theorem Fp(hc:iC X (.builtin id) r)(hg:Gl X x)(hm:X.mg x=none)(hv:bootBuiltins x=some (.builtin id))(ha:PA X (e::es) t)(hn:x≠"__name__":=by decide)(hdb:(x == ("__debug__":Str))=false:=by decide)
  (he:starEach (e::es) X.env=(false,eval e X.env)::starEach es X.env:=by rfl) (hpl:(backTo pos (starEach es X.env)).any (·.1)=false:=by rfl):PE X (.Call (.Name x p) (e::es) [] pos) (tCB r t):=by
 intro pins s σ H Q I h;refine wpAny_Call_Name_kw (gW I hg hm hv ?_ hn hdb);exact PyProof.Rows.callWith_builtin1 (thn (ha pos pins s σ H _ I h) λus s1 ⟨vs,H1,I1,r1,q1⟩=>hc pins s1 σ H1 vs us Q I1 r1 q1) he hpl
theorem QG(hc:iC X (.type T) r)(hg:Gl X x)(hm:X.mg x=none)(hv:bootBuiltins x=some (.type T))(ha:PA X (e::es) t)(hn:x≠"__name__":=by decide)(hdb:(x == ("__debug__":Str))=false:=by decide)
  (he:starEach (e::es) X.env=(false,eval e X.env)::starEach es X.env:=by rfl) (hpl:(backTo pos (starEach es X.env)).any (·.1)=false:=by rfl):PE X (.Call (.Name x p) (e::es) [] pos) (tCB r t):=by
 intro pins s σ H Q I h;refine wpAny_Call_Name_kw (gW I hg hm hv ?_ hn hdb);exact PyProof.Rows.callWith_type1 (thn (ha pos pins s σ H _ I h) λus s1 ⟨vs,H1,I1,r1,q1⟩=>hc pins s1 σ H1 vs us Q I1 r1 q1) he hpl
end
end L2
namespace HT
open PySem PyProof.Rows
section
open PySem.SeqAt
open PySem.AutoSeq1 (wpAny_loadPart')
open PySem.MeetsSeq PySem.MeetsSeq2 PySem.MeetsSeq3
end
section
variable {prog:Program}{w:World}{A:Around}{E:Value->Shared->Prop}{s:Shared}
theorem cat_tup{t b:Addr}{vs ws:List Value}{Q:Value->Shared->Prop}(ht:IsTup s.heap t vs.toArray)(hb:IsTup s.heap b ws.toArray)(hv:vs≠[])
  (h1:ws=[]->Q (.ref t) s) (h2:ws≠[]->Q (.ref s.heap.objs.size) {s with heap:=s.heap.push {cls:=.type "tuple",data:=.seq (vs++ws).toArray}})
  (hsz:vs.length+ws.length<=sizeLine):wpAny (model prog w) A (binaryOp .Add (.ref t) (.ref b)) Q E s:=by
 obtain⟨⟨cls,dd,data,sl⟩,ho,hc,n,hd⟩:=id ht;obtain⟨⟨cls2,dd2,data2,sl2⟩,ho2,hc2,n2,hd2⟩:=id hb;simp only at hc hd hc2 hd2;subst hc hd hc2 hd2
 have e:vs.toArray++ws.toArray=(vs++ws).toArray:=by simp
 by_cases hw:ws=[]
 ·exact concat_meets ⟨_,ho,rfl⟩ ⟨_,ho2,rfl⟩ noFill_tuple_add seq_tuple_add PySem.F.slot_tuple_add PySem.F.entry_tuple_add (PySem.F.args_tuple_add_2 _ _)
   (tuple_addW1 t b vs.toArray ws.toArray n n2 dd dd2 sl sl2 (by simpa using hv) (by simp[hw])) ⟨ho,ho2,h1 hw⟩
 ·refine concat_meets ⟨_,ho,rfl⟩ ⟨_,ho2,rfl⟩ noFill_tuple_add seq_tuple_add PySem.F.slot_tuple_add PySem.F.entry_tuple_add (PySem.F.args_tuple_add_2 _ _)
   (tuple_addW2 t b vs.toArray ws.toArray n n2 dd dd2 sl sl2 (by simpa using hv) (by simpa using hw) (by rw[zq,zq];exact hsz)) ⟨ho,ho2,?_⟩
  rw[e];exact h2 hw
def sIx(n d:Nat):Option Int->Nat
 |none=>d
 |some v=>if v<0 then(v+(n:Int)).toNat else min v.toNat n
theorem sIx_none(n d:Nat):sIx n d none=d:=rfl
theorem sIx_nat(n d k:Nat):sIx n d (some (k:Int))=min k n:=by
 show(if(k:Int)<0 then((k:Int)+(n:Int)).toNat else min (k:Int).toNat n)=min k n;rw[if_neg (by omega),Int.toNat_natCast]
theorem sIx_le(n d:Nat)(hd:d<=n)(o:Option Int):sIx n d o<=n:=by
 cases o with
 |none=>exact hd
 |some v =>
  show(if v<0 then(v+(n:Int)).toNat else min v.toNat n)<=n
  by_cases hv:v<0
  ·rw[if_pos hv];omega
  ·rw[if_neg hv];exact Nat.min_le_right _ _
theorem Fq(v:Int)(n d:Nat):(if v<0 then max (v+(n:Int)) 0 else min v (n:Int))=((sIx n d (some v):Nat):Int):=by
 show(if v<0 then max (v+(n:Int)) 0 else min v (n:Int))=(((if v<0 then(v+(n:Int)).toNat else min v.toNat n):Nat):Int)
 by_cases hv:v<0
 ·simp only[if_pos hv];omega
 ·simp only[if_neg hv];omega
theorem QH(lo hi:Option Int)(n:Nat):Builtin.Slice.sliceAdjust lo hi 1 (n:Int)=(((sIx n 0 lo:Nat):Int),((sIx n n hi:Nat):Int)):=by
 have h1:¬((1:Int)<0):=by omega
 unfold Builtin.Slice.sliceAdjust;simp only[h1,if_false];refine Prod.ext ?_ ?_
 ·cases lo with
  |none=>rfl
  |some v=>exact Fq v n 0
 ·cases hi with
  |none=>rfl
  |some v=>exact Fq v n n
theorem QJ(i j:Nat):Builtin.Slice.slicePlaces (i:Int) (j:Int) 1=j - i:=by
 unfold Builtin.Slice.slicePlaces
 have h1:(1:Int)>0:=by omega
 simp only[h1,if_true,Int.ediv_one]
 split<;>omega
theorem Ft{v:Value}{o:Option Int}{Q:Option Int->Shared->Prop}(p:IsPart v o)(h:Q o s):wpAny (model prog w) A (Builtin.Slice.slicePartIndex v) Q E s:=by
 cases p with
 |none=>exact slicePart_none h
 |int i t=>exact slicePart_int h
theorem sliceApplied_gen{sl:Addr}{vl vu:Value}{lo hi:Option Int}{n:Nat}{Q:Int×Int×Nat->Shared->Prop}(hs:s.heap.IsSliceOf sl vl vu .none)(pl:IsPart vl lo)(pu:IsPart vu hi)
  (h:Q (((sIx n 0 lo:Nat):Int),1,sIx n n hi - sIx n 0 lo) s):wpAny (model prog w) A (Builtin.Slice.sliceApplied (.ref sl) (pure (n:Int))) Q E s:=by
 obtain⟨os,hos,hcs,hds⟩:=id hs;unfold Builtin.Slice.sliceApplied Builtin.Slice.sliceFields;refine za (za (wpAny_field hos hds (x:=vl) rfl (za (wpAny_field hos hds (x:=vu) rfl (za (wpAny_field hos hds (x:=.none) rfl (zc ?_)))))));refine za (slicePart_none ?_);show wpAny _ _ (if((1:Int) == 0)=true then _ else _) _ _ s;rw[if_neg (by decide)];refine za (Ft pl (za (Ft pu (za (zc ?_)))));show wpAny _ _ (match Builtin.Slice.sliceAdjust lo hi 1 (n:Int) with | (lo,hi)=>pure (lo,(1:Int),Builtin.Slice.slicePlaces lo hi 1)) _ _ s;rw[QH lo hi n];show wpAny _ _ (pure (((sIx n 0 lo:Nat):Int),(1:Int),Builtin.Slice.slicePlaces ((sIx n 0 lo:Nat):Int) ((sIx n n hi:Nat):Int) 1)) _ _ s
 rw[QJ];exact zc h
theorem QK(xs:Array Value)(i k:Nat):((List.range k).filterMap λ(m:Nat)=>xs[((i:Int)+(m:Int) * 1).toNat]?).toArray=((xs.toList.drop i).take k).toArray:=by
 have e:(λ(m:Nat)=>xs[((i:Int)+(m:Int) * 1).toNat]?)=λm=>xs[i+m]?:=by
  funext m
  have:((i:Int)+(m:Int) * 1).toNat=i+m:=by omega
  rw[this]
 rw[e]
 have:=pick_run xs i k
 rw[List.filterMap_map] at this
 have e2:((λx=>xs[x]?) ∘ λx=>i+x)=λm=>xs[i+m]?:=rfl
 rw[e2] at this;rw[this]
theorem getItem_tuple_cut{t sl:Addr}{items:Array Value}{vl vu:Value}{lo hi:Option Int}{Q:Value->Shared->Prop}(ht:IsTup s.heap t items)(hs:s.heap.IsSliceOf sl vl vu .none)(pl:IsPart vl lo)(pu:IsPart vu hi)
  (hw:¬(sIx items.size 0 lo=0/\sIx items.size items.size hi=items.size))
  (h:Q (.ref s.heap.objs.size) {s with heap:=s.heap.push {cls:=.type "tuple",data:=.seq ((items.toList.drop (sIx items.size 0 lo)).take (sIx items.size items.size hi - sIx items.size 0 lo)).toArray}})
  (hsz:items.size<=sizeLine):wpAny (model prog w) A (getItem (.ref t) (.ref sl)) Q E s:=by
 have htake:sizeOk (.seq ((items.toList.drop (sIx items.size 0 lo)).take (sIx items.size items.size hi - sIx items.size 0 lo)).toArray):=by
  show((items.toList.drop (sIx items.size 0 lo)).take (sIx items.size items.size hi - sIx items.size 0 lo)).toArray.size<=sizeLine;rw[zq,List.length_take,List.length_drop,Array.length_toList];omega
 have hj:sIx items.size items.size hi<=items.size:=sIx_le _ _ (zb _) hi;obtain⟨os,hos,hcs,hds⟩:=id hs;have hTs:s.TypeIs (.ref sl) "slice":=⟨os,hos,hcs⟩;unfold getItem
 try with_reducible refine zT ?_
 first | refine za (zc ?_) | skip
 refine za (wpAny_sequenceKey ht.typeIs (by decide) ?_)
 refine za (wpAny_callSpecial?_slot (name:=Str.ofString "__getitem__") ht.typeIs PyProof.Rows.slot_tuple_getitem
  (wpAny_call_entry PyProof.Rows.slot_tuple_getitem ht.typeIs entry_tuple_getitem ?_ (args_tuple_getitem _ _)))
 show wpAny _ _ (Builtin.Tuple.tupleItemsOf (.ref t) >>= _) _ _ s;refine za (tupleItemsOf_ ht ?_);refine za (wpAny_typeOf hTs ?_);rw[if_pos (by decide)];refine za (sliceApplied_gen hs pl pu ?_)
 have hno:¬((((sIx items.size 0 lo:Nat):Int) == 0&&(1:Int) == 1&&(sIx items.size items.size hi - sIx items.size 0 lo) == items.size)=true):=by
  intro q;rw[zn,zn] at q;have q1:((sIx items.size 0 lo:Nat):Int)=0:=eq_of_beq q.1.1;have q2:sIx items.size items.size hi - sIx items.size 0 lo=items.size:=eq_of_beq q.2;exact hw ⟨by omega,by omega⟩
 show wpAny _ _ (if(((sIx items.size 0 lo:Nat):Int) == 0&&(1:Int) == 1&&(sIx items.size items.size hi - sIx items.size 0 lo) == items.size)=true then _ else _) _ _ s;rw[if_neg hno,QK]
 first
  | exact za (m:=Builtin.Tuple.tupleExact _) (wpAny_newObj_type (zc ⟨_,rfl,zc h⟩) htake)
  | exact za (m:=Builtin.Tuple.tupleExact _) (wpAny_newObj_type (za (zc (zc ⟨_,rfl,zc h⟩))) htake)
  | exact za (za (m:=Builtin.Tuple.tupleExact _) (wpAny_newObj_type (zc (zc ⟨_,rfl,zc h⟩)) htake))
  | exact za (za (m:=Builtin.Tuple.tupleExact _) (wpAny_newObj_type (zc ⟨_,rfl,zc h⟩) htake))
end
end HT
namespace L2
open PySem PySem.Spec PyProof.Rows
abbrev TO:=St->Hp->(Option Int->Hp->Prop)->Prop
def PO(X:Cx)(e:Option Expr)(t:TO):Prop :=
 ∀(pins:List (Addr×Obj)) (s:Shared) (σ:St) (H:Hp) (Q:Option Int->Hp->Prop),Inv X pins σ H s->t σ H Q ->
  wpAny (model X.prog X.w) X.A (evalPart e X.env) (λu s'=>∃o H',Inv X pins σ H' s'/\IsPart u o/\Q o H') X.xe s
def QL:TO:=λ_ H Q=>Q none H
def QM(t:TE):TO:=λσ H Q=>t σ H λx H1=>∃i,x=.int i/\Q (some i) H1
section
variable {X:Cx}{e:Expr}{te:TE}{lo hi:Option Expr}{tl th:TO}{pos p2:Pos}
theorem QQ:PO X none QL:=by
 intro pins s σ H Q I h;rw[evalPart_none];exact zc ⟨none,H,I,.none,h⟩
theorem QR(h:PE X e te):PO X (some e) (QM te):=by
 intro pins s σ H Q I hw;rw[evalPart_some]
 refine thn (h pins s σ H _ I hw) λu s1 ⟨x,H1,I1,r1,q1⟩=>?_
 obtain⟨i,rfl,q⟩:=q1;obtain⟨t,rfl⟩:=r1;exact⟨some i,H1,I1,.int i t,q⟩
def SlR(X:Cx)(r:V->Option Int->Option Int->Hp->VK->Prop):Prop :=
 ∀(pins:List (Addr×Obj)) (s:Shared) (σ:St) (H:Hp) (x:V) (v vl vu:Value) (lo hi:Option Int) (sl:Addr) (Q:VK),Inv X pins σ H s->RelV x v->s.heap.IsSliceOf sl vl vu .none->IsPart vl lo->IsPart vu hi->r x lo hi H Q ->
  ∃T id,typeLookup (.type T) "__getitem__" = pure (some (.builtin id))/\s.TypeIs v T/\wpAny (model X.prog X.w) X.A (getItem v (.ref sl)) (EP X pins σ Q) X.xe s
def tSl(r:V->Option Int->Option Int->Hp->VK->Prop)(te:TE)(tl th:TO):TE:=λσ H Q=>te σ H λx H1=>tl σ H1 λl H2=>th σ H2 λu H3=>r x l u H3 Q
theorem QS{r:V->Option Int->Option Int->Hp->VK->Prop}(hr:SlR X r)(he:PE X e te)(hl:PO X lo tl)(hu:PO X hi th):PE X (.Subscript e (.Slice lo hi none p2) pos) (tSl r te tl th):=by
 intro pins s σ H Q I h;refine Subscript_ (thn (he pins s σ H _ I h) λv s1 ⟨x,H1,I1,r1,q1⟩=>?_);refine wpAny_Slice (thn (hl pins s1 σ H1 _ I1 q1) λvl s2 ⟨l,H2,I2,pl,q2⟩=>thn (hu pins s2 σ H2 _ I2 q2) λvu s3 ⟨u,H3,I3,pu,q3⟩=>?_);rw[evalPart_none];refine zc ?_
 have I4:Inv X pins σ H3 {s3 with heap:=s3.heap.push {cls:=.type "slice",data:=.fields #[vl,vu,.none]}}:=I3.kept (t':=s3.toks) λb ob q=>zu _ q
 obtain⟨T,id,hT,ht,hg⟩:=hr pins {s3 with heap:=s3.heap.push {cls:=.type "slice",data:=.fields #[vl,vu,.none]}} σ H3 x v vl vu l u s3.heap.objs.size Q I4 r1 (Heap.IsSliceOf.new ..) pl pu q3;show wpAny (model X.prog X.w) X.A (subscriptTail e (.Slice lo hi none p2) v (.ref s3.heap.objs.size)) (EP X pins σ Q) X.xe {s3 with heap:=s3.heap.push {cls:=.type "slice",data:=.fields #[vl,vu,.none]}};exact tail_any (ops:=[.ref s3.heap.objs.size,v]) ht hT hg (by with_unfolding_all rfl)
def jP(xs:List V)(lo hi:Option Int):List V:=(xs.drop (HT.sIx xs.length 0 lo)).take (HT.sIx xs.length xs.length hi - HT.sIx xs.length 0 lo)
theorem Fv(xs:List V)(lo hi:Option Int):(jP xs lo hi).length<=xs.length:=by
 unfold jP;rw[List.length_take,List.length_drop];omega
def QT(K:PySem.W.Frag):V->Option Int->Option Int->Hp->VK->Prop:=λx lo hi H Q=>∃a xs,x=.ref a/\SqT K H a xs /\
 ¬(HT.sIx xs.length 0 lo=0/\HT.sIx xs.length xs.length hi=xs.length)/\∀p,H p=none->Q (.ref p) (upd H p (.tup (jP xs lo hi)))
theorem QV:SlR X (QT X.K):=by
 intro pins s σ H x v vl vu lo hi sl Q I rx hs pl pu h;obtain⟨a,xs,rfl,hx,hw,q⟩:=h;cases rx;obtain⟨its,r,ht,hz⟩:=I.tuple hx
 have hlen:its.toArray.size=xs.length:=by rw[zq];exact r.length.symm
 refine⟨"tuple",_,PyProof.Rows.slot_tuple_getitem.lookup,ht.typeIs,?_⟩;refine HT.getItem_tuple_cut ht hs pl pu (by rw[hlen];exact hw) ?_ (by rw[hlen];exact hz);rw[hlen];refine⟨.ref s.heap.objs.size,_,I.laid (t':=s.toks) (o:=.tup (jP xs lo hi)) (λb ob q=>zu _ q) (zb _) ?_,rfl,q _ (I.hok.fresh (zb _))⟩;exact⟨zG (Fv xs lo hi) hz,_,(r.drop (HT.sIx xs.length 0 lo)).take (HT.sIx xs.length xs.length hi - HT.sIx xs.length 0 lo),IsTup.new _ _⟩
def QW(K:PySem.W.Frag):R2:=λx y H Q=>∃a b xs ys,x=.ref a/\y=.ref b/\SqT K H a xs/\SqT K H b ys/\xs≠[]/\xs.length+ys.length<=sizeLine /\
 (ys=[]->Q (.ref a) H)/\(ys≠[]->∀p,H p=none->Q (.ref p) (upd H p (.tup (xs++ys))))
theorem aR.nil_iff{xs:List V}{us:List Value}(r:aR xs us):us=[]↔xs=[]:=by
 cases r with
 |nil=>simp
 |cons _ _=>simp
theorem QX:OpR X (binaryOp .Add) (QW X.K):=by
 intro pins s σ H x y v u Q I rx ry h;obtain⟨a,b,xs,ys,rfl,rfl,ha,hb,hx,hz,q1,q2⟩:=h;cases rx;cases ry;obtain⟨its,r1,p1,_⟩:=I.tuple ha;obtain⟨its2,r2,p2,_⟩:=I.tuple hb;refine HT.cat_tup p1 p2 (λz=>hx (r1.nil_iff.mp z)) (λz=>⟨.ref a,H,I,rfl,q1 (r2.nil_iff.mp z)⟩) (λz=>?_) (by rw[<-r1.length,<-r2.length];exact hz);refine⟨.ref s.heap.objs.size,_,I.laid (t':=s.toks) (o:=.tup (xs++ys)) (λb ob q=>zu _ q) (zb _) ?_,rfl,q2 (λw=>z (r2.nil_iff.mpr w)) _ (I.hok.fresh (zb _))⟩;exact⟨by rw[ze];exact hz,_,r1.append r2,IsTup.new _ _⟩
end
def ixN(n:Nat)(i:Int):Option Nat:=if 0<=i then(if i<n then some i.toNat else none) else if -(n:Int)<=i then some (i+n).toNat else none
def atI{α:Type}(xs:List α)(i:Int):Option α:=(ixN xs.length i).bind λj=>xs[j]?
theorem Fw{n:Nat}{i:Int}{j:Nat}(h:ixN n i=some j):seqIndex? i n=some j/\j<n/\-(n:Int)<=i/\i<n:=by
 unfold ixN at h
 by_cases h0:0<=i
 ·rw[if_pos h0] at h
  by_cases h1:i<n
  ·rw[if_pos h1] at h;have e:i.toNat=j:=zx h;exact⟨by rw[seqIndex_of h0 h1,e],by omega,by omega,h1⟩
  ·rw[if_neg h1] at h;cases h
 ·rw[if_neg h0] at h
  by_cases h1:-(n:Int)<=i
  ·rw[if_pos h1] at h;have e:(i+n).toNat=j:=zx h;exact⟨by rw[seqIndex_neg (by omega) h1,e],by omega,h1,by omega⟩
  ·rw[if_neg h1] at h;cases h
theorem wW{α:Type}{xs:List α}{i:Int}{v:α}(h:atI xs i=some v):∃j,seqIndex? i xs.length=some j/\xs[j]?=some v/\j<xs.length/\-(xs.length:Int)<=i/\i<xs.length:=by
 unfold atI at h
 cases e:ixN xs.length i with
 |none=>rw[e] at h;cases h
 |some j =>
  rw[e] at h;obtain⟨h1,h2,h3,h4⟩:=Fw e;exact⟨j,h1,h,h2,h3,h4⟩
def sZ(b:Expr):Prop:=∀o i,subscripted b false o i=operate [o,i] (getItem o i)
def IxR(X:Cx)(r:R2):Prop :=
 ∀(value slice:Expr) (pins:List (Addr×Obj)) (s:Shared) (σ:St) (H:Hp) (x y:V) (v u:Value) (Q:VK),Inv X pins σ H s->RelV x v->RelV y u->r x y H Q ->
  subscripted slice false v u=operate [v,u] (getItem v u)->wpAny (model X.prog X.w) X.A (subscriptTail value slice v u) (EP X pins σ Q) X.xe s
def MtR(X:Cx)(id:String)(r:V->List V->Hp->VK->Prop):Prop :=
 ∀(pins:List (Addr×Obj)) (s:Shared) (σ:St) (H:Hp) (x:V) (xs:List V) (v:Value) (us:List Value) (Q:VK),Inv X pins σ H s->RelV x v->aR xs us->r x xs H Q ->
  wpAny (model X.prog X.w) X.A (call (.builtin id) (v::us)) (EP X pins σ Q) X.xe s
section
variable {X:Cx}{a b:Expr}{ta tb:TE}{pos:Pos}
theorem QZ{r:R2}(hr:IxR X r)(ha:PE X a ta)(hb:PE X b tb)(hs:sZ b):PE X (.Subscript a b pos) (tOp r ta tb):=by
 intro pins s σ H Q I h;exact Subscript_ (wI ha hb I h λv u s2 x y H2 I2 rx ry q=>hr a b pins s2 σ H2 x y v u Q I2 rx ry q (hs _ _))
def Q0(K:PySem.W.Frag):R2:=λx y H Q=>∃p xs i v,x=.ref p/\y=.int i/\SqL K H p xs/\atI xs i=some v/\Q v H
def Q3(K:PySem.W.Frag):R2:=λx y H Q=>∃p xs i v,x=.ref p/\y=.int i/\SqT K H p xs/\atI xs i=some v/\Q v H
def Q4:R2:=λx y H Q=>∃z i c,x=.str z/\y=.int i/\z.length<=sizeLine/\atI z.cps.toList i=some c/\Q (.str ⟨#[c]⟩) H
theorem Q5:IxR X (Q0 X.K):=by
 intro value slice pins s σ H x y v u Q I rx ry h hs;obtain⟨p,xs,i,z,rfl,rfl,hq,he,q⟩:=h;cases rx;obtain⟨t,rfl⟩:=ry;obtain⟨its,r,pl,hz⟩:=I.list hq;obtain⟨j,h1,h2,h3,h4,h5⟩:=wW he;obtain⟨w,ew,rw'⟩:=r.get h2;have hl:=r.length;have hn:=nC;have fin:EP X pins σ Q w s:=⟨z,H,I,rw',q⟩
 by_cases h0:0<=i
 ·have hj:i.toNat=j:=by
   rw[seqIndex_of h0 h5] at h1;exact zx h1
  exact item_listR pl.isList h0 (by omega) (by rw[hj];simpa using ew) fin hs
 ·have hj:(i+(its.toArray.size:Int)).toNat=j:=by
   rw[seqIndex_neg (by omega) h4] at h1;rw[zq,<-hl];exact zx h1
  exact subscriptTail_builtinR (x:=w) pl.isList.typeIs slot_list_getitem.lookup
   (wpAny_getItem_list_neg (Q:=λr s'=>r=w/\EP X pins σ Q r s') pl.isList (by omega) (by rw[zq]<;>omega) (by omega) (by rw[hj];simpa using ew) ⟨rfl,fin⟩) hs
theorem Q6:IxR X (Q3 X.K):=by
 intro value slice pins s σ H x y v u Q I rx ry h hs;obtain⟨p,xs,i,z,rfl,rfl,hq,he,q⟩:=h;cases rx;obtain⟨t,rfl⟩:=ry;obtain⟨its,r,pl,hz⟩:=I.tuple hq;obtain⟨j,h1,h2,h3,h4,h5⟩:=wW he;obtain⟨w,ew,rw'⟩:=r.get h2;have hl:=r.length;have hn:=nC;have fin:EP X pins σ Q w s:=⟨z,H,I,rw',q⟩;exact subscriptTail_builtinR (x:=w) pl.typeIs slot_tuple_getitem.lookup
  (getItem_tuple (j:=j) (Q:=λr s'=>r=w/\EP X pins σ Q r s') pl (by omega) (by omega) (by rw[zq,<-hl];exact h1) (by simpa using ew) ⟨rfl,fin⟩) hs
theorem Q7:IxR X Q4:=by
 intro value slice pins s σ H x y v u Q I rx ry h hs;obtain⟨z,i,c,rfl,rfl,hz,he,q⟩:=h;obtain⟨t,rfl⟩:=rx;obtain⟨t',rfl⟩:=ry;obtain⟨j,h1,h2,h3,h4,h5⟩:=wW he
 have hl:z.cps.toList.length=z.length:=by simp[Str.length]
 rw[hl] at h1 h4 h5;have hn:=nC
 exact tail_any (typeIs_str s z t) slot_str_getitem.lookup (getItem_str (c:=c) (by
  have e1:decide (i < -(2 ^ 63:Int))=false:=zo (by omega);have e2:decide (i>=2 ^ 63)=false:=zo (by omega)
  rw[e1,e2,Bool.or_false]) (by rw[h1];simpa using h2) ⟨.str ⟨#[c]⟩,H,I.tok _,⟨_,rfl⟩,q⟩) hs
theorem Q8(its:List Value)(n j:Nat)(u:Value):Obj.mapSeq (·.setIfInBounds j u) {cls:=.type "list",data:=.seq its.toArray n} = {cls:=.type "list",data:=.seq (its.set j u).toArray n}:=by
 simp[Obj.mapSeq]
theorem Inv.lst{pins:List (Addr×Obj)}{σ:St}{H:Hp}{s:Shared}{p:Addr}{xs:List V}(I:Inv X pins σ H s)(h:H p=some (.lst xs)):
  ∃(its:List Value) (n:Nat),aR xs its/\s.heap.get? p=some {cls:=.type "list",data:=.seq its.toArray n}/\xs.length<=sizeLine:=by
 obtain⟨z,its,n,r,e⟩:=I.hok p _ h;exact⟨its,n,r,e,z⟩
theorem Inv.lstUpd{pins:List (Addr×Obj)}{σ:St}{H:Hp}{s:Shared}{p:Addr}{xs ys:List V}{its its':List Value}{n n':Nat}{f:Obj->Obj}(I:Inv X pins σ H s)(h:H p=some (.lst xs))
  (ho:s.heap.get? p=some {cls:=.type "list",data:=.seq its.toArray n}) (hf:f {cls:=.type "list",data:=.seq its.toArray n} = {cls:=.type "list",data:=.seq its'.toArray n'}) (r:aR ys its') (hz:ys.length<=sizeLine) (t:Nat):
  Inv X pins σ (upd H p (.lst ys)) {s with heap:=s.heap.update p f,toks:=t}:=by
 have e:(s.heap.update p f).get? p=some {cls:=.type "list",data:=.seq its'.toArray n'}:=by
  rw[Heap.get?_update_self f ho (by rw[hf]<;>rfl),hf]
 refine I.write (x:=p) (e:=p) (by rw[h];trivial) (.inl rfl) (λb u hb q=>(jc _ _ (Ne.symm hb)).trans q) ⟨_,e⟩ ?_;exact⟨hz,its',n',r,e⟩
def Q9:V->V->V->Hp->(Hp->Prop)->Prop:=λo i v H Q=>∃p xs k j,o=.ref p/\i=.int k/\H p=some (.lst xs)/\ixN xs.length k=some j/\Q (upd H p (.lst (xs.set j v)))
theorem set_list:Ef X Q9:=by
 intro pins s σ H o i v ov iv u Q I ro ri rv h;obtain⟨p,xs,k,j,rfl,rfl,hp,hj,q⟩:=h;cases ro;obtain⟨t,rfl⟩:=ri;obtain⟨its,n,r,ho,hz⟩:=I.lst hp;obtain⟨h1,h2,h3,h4⟩:=Fw hj;have hl:=r.length;have hn:=nC;have I':Inv X pins σ (upd H p (.lst (xs.set j v))) {s with heap:=s.heap.update p (Obj.mapSeq (·.setIfInBounds j u))}:=
  I.lstUpd hp ho (Q8 its n j u) (r.set rv j) (by rw[zU];exact hz) s.toks
 by_cases h0:0<=k
 ·have hk:k.toNat=j:=by
   rw[seqIndex_of h0 h4] at h1;exact zx h1
  exact PySem.W.ki_setAt ho h0 (by omega) (by rw[zq,<-hl];exact h4) (by rw[hk];exact⟨_,I',q⟩)
 ·have hk:(k+(its.toArray.size:Int)).toNat=j:=by
   rw[seqIndex_neg (by omega) h3] at h1;rw[zq,<-hl];exact zx h1
  exact PySem.W.ki_setBack ho (by omega) (by rw[zq,<-hl];exact h3) (by omega) (by rw[hk];exact⟨_,I',q⟩)
theorem Fx(lo hi:Option Int)(n:Nat):(sliceBounds lo hi none n).1=((HT.sIx n 0 lo:Nat):Int)/\(sliceBounds lo hi none n).2.1=((HT.sIx n n hi:Nat):Int)/\(sliceBounds lo hi none n).2.2=1:=by
 refine⟨?_,?_,rfl⟩
 ·cases lo with
  |none=>simp[sliceBounds,HT.sIx]
  |some i =>
   simp only[sliceBounds,HT.sIx,Option.getD_none,show(1:Int)>0 by decide,if_true]
   by_cases h:i<0
   ·simp only[h,if_true]<;>omega
   ·simp only[h,if_false]<;>omega
 ·cases hi with
  |none=>simp[sliceBounds,HT.sIx]
  |some i =>
   simp only[sliceBounds,HT.sIx,Option.getD_none,show(1:Int)>0 by decide,if_true]
   by_cases h:i<0
   ·simp only[h,if_true]<;>omega
   ·simp only[h,if_false]<;>omega
theorem Ra(its:List Value)(lo hi:Option Int):slicePick its.toArray lo hi none=((its.drop (HT.sIx its.length 0 lo)).take (HT.sIx its.length its.length hi - HT.sIx its.length 0 lo)).toArray:=by
 obtain⟨h1,h2,h3⟩:=Fx lo hi its.toArray.size;unfold slicePick;rw[h1,h2,h3]
 simp only[sliceRange_one,pick_run,zq]<;>rfl
def Rb(K:PySem.W.Frag):V->Option Int->Option Int->Hp->VK->Prop:=λx lo hi H Q=>∃a xs,x=.ref a/\SqL K H a xs/\∀p,H p=none->Q (.ref p) (upd H p (.lst (jP xs lo hi)))
theorem Rc:SlR X (Rb X.K):=by
 intro pins s σ H x v vl vu lo hi sl Q I rx hs pl pu h;obtain⟨a,xs,rfl,hx,q⟩:=h;cases rx;obtain⟨its,r,ht,hz⟩:=I.list hx;have hlen:=r.length;refine⟨"list",_,slot_list_getitem.lookup,ht.isList.typeIs,?_⟩;refine wpAny_getItem_list_slice ht.isList hs pl pu .none (by simp) ?_ (by rw[zq]<;>omega);rw[Ra,<-hlen];refine⟨.ref s.heap.objs.size,_,I.laid (t':=s.toks) (o:=.lst (jP xs lo hi)) (λb ob q=>zu _ q) (zb _) ?_,rfl,q _ (I.hok.fresh (zb _))⟩;exact⟨zG (Fv xs lo hi) hz,_,0,(r.drop (HT.sIx xs.length 0 lo)).take (HT.sIx xs.length xs.length hi - HT.sIx xs.length 0 lo),zH _ rfl⟩
def jx:V->Bool
 | .non=>true
 | .bl _=>true
 | .int _=>true
 | .str _=>true
 | _=>false
def eqV:V->V->Bool
 | .non,.non=>true
 | .bl a,.bl b=>a == b
 | .bl a,.int b=>(if a then 1 else 0) == b
 | .int a,.bl b=>a == (if b then 1 else 0)
 | .int a,.int b=>a == b
 | .str a,.str b=>a == b
 | _,_=>false
theorem Rf{A:Around}{s:Shared}{y x:V}{u v:Value}(ry:RelV y u)(rx:RelV x v)(fy:jx y=true)(fx:jx x=true):SeqAt.EqAt A s u v (eqV y x):=by
 cases y with
 |non =>
  cases ry
  cases x with
  |non=>cases rx;exact SeqAt.EqAt.same _
  |bl b=>cases rx;exact SeqAt.EqAt.none_bool b
  |int b=>obtain⟨t,rfl⟩:=rx;exact SeqAt.EqAt.none_int b t
  |str b=>obtain⟨t,rfl⟩:=rx;exact SeqAt.EqAt.none_str b t
  | _=>exact absurd (show false=true from fx) zk
 |bl a =>
  cases ry
  cases x with
  |non=>cases rx;exact SeqAt.EqAt.bool_none a
  |bl b=>cases rx;exact SeqAt.EqAt.bool_bool a b
  |int b=>obtain⟨t,rfl⟩:=rx;exact SeqAt.EqAt.bool_int a b t
  |str b=>obtain⟨t,rfl⟩:=rx;exact SeqAt.EqAt.bool_str a b t
  | _=>exact absurd (show false=true from fx) zk
 |int a =>
  obtain⟨t',rfl⟩:=ry
  cases x with
  |non=>cases rx;exact SeqAt.EqAt.int_none a t'
  |bl b=>cases rx;exact SeqAt.EqAt.int_bool a t' b
  |int b=>obtain⟨t,rfl⟩:=rx;exact SeqAt.EqAt.int_int a t' b t
  |str b=>obtain⟨t,rfl⟩:=rx;exact SeqAt.EqAt.int_str a t' b t
  | _=>exact absurd (show false=true from fx) zk
 |str a =>
  obtain⟨t',rfl⟩:=ry
  cases x with
  |non=>cases rx;exact SeqAt.EqAt.str_none a t'
  |bl b=>cases rx;exact SeqAt.EqAt.str_bool a t' b
  |int b=>obtain⟨t,rfl⟩:=rx;exact SeqAt.EqAt.str_int a t' b t
  |str b=>obtain⟨t,rfl⟩:=rx;exact SeqAt.EqAt.str_str a t' b t
  | _=>exact absurd (show false=true from fx) zk
 | _=>exact absurd (show false=true from fy) zk
def eqU(x:V)(u:Value):Bool:=match u with
 | .none=>eqV .non x
 | .bool b=>eqV (.bl b) x
 | .int i _=>eqV (.int i) x
 | .str z _=>eqV (.str z) x
 | _=>false
theorem Fy{x y:V}{u:Value}(r:RelV y u)(f:jx y=true):eqU x u=eqV y x:=by
 cases y with
 |non=>cases r;rfl
 |bl b=>cases r;rfl
 |int i=>obtain⟨t,rfl⟩:=r;rfl
 |str z=>obtain⟨t,rfl⟩:=r;rfl
 | _=>exact absurd (show false=true from f) zk
theorem wX{x:V}:∀{xs:List V}{us:List Value},aR xs us->xs.all jx=true->us.any (eqU x)=xs.any λy=>eqV y x
 | _,_,.nil,_=>rfl
 |y::xs,u::us,.cons r t,f=>by
  rw[List.all_cons,zn] at f;rw[List.any_cons,List.any_cons,Fy r f.1,wX t f.2]
theorem wY{A:Around}{s:Shared}{x:V}{v:Value}(rx:RelV x v)(fx:jx x=true):∀{xs:List V}{us:List Value},aR xs us->xs.all jx=true->∀u∈us,SeqAt.EqAt A s u v (eqU x u)
 | _,_,.nil,_=>λu hu=>by cases hu
 |y::xs,u::us,.cons r t,f=>λu' hu=>by
  rw[List.all_cons,zn] at f
  rcases zm.mp hu with rfl | hu
  ·rw[Fy r f.1];exact Rf r rx f.1 fx
  ·exact wY rx fx t f.2 u' hu
def inV(x:V)(xs:List V):Bool:=xs.any λy=>eqV y x
def rIn(K:PySem.W.Frag)(neg:Bool):R2:=λx y H Q=>∃p xs,y=.ref p/\(SqL K H p xs\/SqT K H p xs)/\jx x=true/\xs.all jx=true/\Q (.bl (if neg then !inV x xs else inV x xs)) H
theorem Rg:OpR X (compareOp .In) (rIn X.K false):=by
 intro pins s σ H x y v u Q I rx ry h;obtain⟨p,xs,rfl,hq,fx,fs,q⟩:=h;cases ry
 rcases hq with hq | hq
 ·obtain⟨its,r,pl,hz⟩:=I.list hq;refine SeqAt.in_listAt (eqU x) pl.isList (λw hw=>wY rx fx r fs w (by simpa using hw)) ⟨.bl _,H,I,rfl,?_⟩;rw[show its.toArray.any (eqU x)=its.any (eqU x) by simp,wX r fs];exact q
 ·obtain⟨its,r,pl,hz⟩:=I.tuple hq;refine SeqAt.in_tupleAt (eqU x) pl (λw hw=>wY rx fx r fs w (by simpa using hw)) ⟨.bl _,H,I,rfl,?_⟩;rw[show its.toArray.any (eqU x)=its.any (eqU x) by simp,wX r fs];exact q
theorem Fz:iC X (.type "list") (λxs H Q=>∃p ys,xs=[.ref p]/\(SqL X.K H p ys\/SqT X.K H p ys)/\∀l,H l=none->Q (.ref l) (upd H l (.lst ys))):=by
 intro pins s σ H xs us Q I r h;obtain⟨p,ys,rfl,hq,q⟩:=h;obtain⟨u,rfl,rx⟩:=vals1 r;cases rx;have fin:∀(its:List Value),aR ys its->ys.length<=sizeLine->∀(h':Heap) (c':Nat),(∀b o',s.heap.get? b=some o'->h'.get? b=some o') ->
   h'.get? s.heap.objs.size=some {cls:=.type "list",dict:=none,data:=.seq its.toArray c',slots:=#[]}->EP X pins σ Q (.ref s.heap.objs.size) {s with heap:=h'}:=λits r' hz h' c' kp e =>
  ⟨.ref s.heap.objs.size,_,I.laid (t':=s.toks) kp (zb _) (show cG X.prog X.w _ h' _ (.lst ys) from⟨hz,its,c',r',e⟩),rfl,q _ (I.hok.fresh (zb _))⟩
 rcases hq with hq | hq
 ·obtain⟨its,r',pl,hz⟩:=I.list hq;have hlen:=r'.length;obtain⟨o,ho,hc,n,hd⟩:=pl.isList;exact call_list_seq p (.inl rfl) ho hc hd (λh' c' kp e=>fin its r' hz h' c' kp e) (by simp only[zq]<;>omega)
 ·obtain⟨its,r',pl,hz⟩:=I.tuple hq;have hlen:=r'.length;obtain⟨o,ho,hc,n,hd⟩:=pl;exact call_list_seq p (.inr rfl) ho hc hd (λh' c' kp e=>fin its r' hz h' c' kp e) (by simp only[zq]<;>omega)
def tyV(K:PySem.W.Frag)(T:String)(x:V)(H:Hp):Prop:=match x with
 | .str _=>T = "str"
 | .int _=>T = "int"
 | .ref p=>(T = "list"/\∃xs,SqL K H p xs)\/(T = "tuple"/\∃o,K.lookup p=some o/\o.cls=.type "tuple"/\o.dict=none) \/
   (T = "dict"/\((∃kvs,H p=some (.dK kvs))\/∃kvs,H p=some (.dT kvs)))\/(T = "set"/\∃S n,H p=some (.set S n))
 | _=>False
theorem Rh{pins:List (Addr×Obj)}{σ:St}{H:Hp}{s:Shared}{T:String}{x:V}{v:Value}(I:Inv X pins σ H s)(r:RelV x v)(ty:tyV X.K T x H):
  s.TypeIs v T/\∀a,v=.ref a->∃ob,s.heap.get? a=some ob/\ob.dict=none:=by
 cases x with
 |str z =>
  obtain⟨t,rfl⟩:=r;cases(show T = "str" from ty);exact⟨typeIs_str s z t,λ_ e=>nomatch e⟩
 |int i =>
  obtain⟨t,rfl⟩:=r;cases(show T = "int" from ty);exact⟨typeIs_int s i t,λ_ e=>nomatch e⟩
 |ref p =>
  cases r
  rcases ty with⟨rfl,xs,hq⟩ | ⟨rfl,o,hk,hc,hd⟩ | ⟨rfl,hk⟩ | ⟨rfl,S,n,hk⟩
  ·obtain⟨its,_,pl,_⟩:=I.list hq;refine⟨pl.isList.typeIs,λa e=>?_⟩;cases e;obtain⟨o,n,e,c,hd,_⟩:=pl;exact⟨o,e,hd⟩
  ·refine⟨⟨o,I.kIn p o hk,hc⟩,λa e=>?_⟩;cases e;exact⟨o,I.kIn _ o hk,hd⟩
  ·have z:∃o,s.heap.get? p=some o/\o.ExactDict:=by
    rcases hk with⟨kvs,hk⟩ | ⟨kvs,hk⟩
    ·obtain⟨_,_,_,_,o,_,_,e,ex,_⟩:=I.hok p _ hk;exact⟨o,e,ex⟩
    ·obtain⟨_,_,_,_,o,_,_,e,ex,_⟩:=I.hok p _ hk;exact⟨o,e,ex⟩
   obtain⟨o,e,ex⟩:=z;refine⟨⟨o,e,ex.1⟩,λa e2=>?_⟩;cases e2;exact⟨o,e,ex.2.1⟩
  ·obtain⟨o,_,_,_,e,ex,_⟩:=I.hok p _ hk;refine⟨⟨o,e,ex.1⟩,λa e2=>?_⟩;cases e2;exact⟨o,e,ex.2.1⟩
 | _=>exact False.elim ty
def tBM(K:PySem.W.Frag)(T:String)(r:V->List V->Hp->VK->Prop)(to:TE)(t:TA):TE:=λσ H Q=>to σ H λx H1=>tyV K T x H1/\t σ H1 λxs H2=>r x xs H2 Q
variable {o e:Expr}{es:List Expr}{to:TE}{t:TA}{name:Str}{apos cpos:Pos}{T id:String}{r:V->List V->Hp->VK->Prop}
theorem wZ(pa:PlainAttrs T)(slot:Slot T name id)(hty:typeOf (.builtin id)=pure (.type "method_descriptor"))(hm:MtR X id r)(ho:PE X o to)(ha:PA X (e::es) t)
  (hbase:attributeBase o name X.env (eval o X.env)=eval o X.env:=by rfl)
  (hfew:((backTo cpos (starEach (e::es) X.env)).all (λx=>!x.1)&&(backToKw cpos (keywordEach [] X.env)).all (λx=>x.1.isSome)
   && decide ((e::es).length+([]:List Keyword).length+(if([]:List Keyword).isEmpty then 0 else 1)<30))=true:=by rfl)
  (hline:(apos.endLine == cpos.line)=true:=by rfl) (hs:starEach (e::es) X.env=(false,eval e X.env)::starEach es X.env:=by rfl) (hplain:(backTo cpos (starEach es X.env)).any (·.1)=false:=by rfl):
  PE X (.Call (.Attribute o name apos) (e::es) [] cpos) (tBM X.K T r to t):=by
 intro pins s σ H Q I h;refine wpAny_Call_method_late hbase hfew hline rfl (thn (ho pins s σ H _ I h) λv s1 ⟨x,H1,I1,r1,ty,q1⟩=>?_);obtain⟨h1,h2⟩:=Rh I1 r1 ty;refine⟨T,id,pa,slot,hty,h1,h2,?_⟩;have hA:=ha cpos pins s1 σ H1 _ I1 q1;rw[hs] at hA ⊢;refine Calls.callWith_builtin (by show(false || (backTo cpos (starEach es X.env)).any (·.1))=false;rw[hplain]<;>rfl) (Calls.evalArgs_plain ?_)
 exact thn hA λus s2 ⟨vs,H2,I2,r2,q2⟩=>hm pins s2 σ H2 x vs v us Q I2 r1 r2 q2
/- xs.append(e),list.index on a module's tuple .. are MtR facts of 06m -/
end
def MtM(X:Cx)(id:String)(r:V->List V->Hp->VK->Prop):Prop :=
 ∀(pins:List (Addr×Obj)) (s:Shared) (σ:St) (H:Hp) (x:V) (xs:List V) (v:Value) (us:List Value) (Q:VK),Inv X pins σ H s->RelV x v->aR xs us->r x xs H Q ->
  wpAny (model X.prog X.w) X.A (call (.builtin id) (v::us)) (EP X pins σ Q) X.xe s
theorem aR.one:∀{x:V}{us:List Value},aR [x] us->∃u,us=[u]/\RelV x u
 | _,_,.cons r .nil=>⟨_,rfl,r⟩
theorem aR.rep{xs:List V}{us:List Value}(h:aR xs us):∀k:Nat,aR (List.replicate k xs).flatten (List.replicate k us).flatten
 | 0=>.nil
 |k+1=>by
  rw[List.replicate_succ,List.replicate_succ,List.flatten_cons,List.flatten_cons];exact aR.append h (aR.rep h k)
theorem foldl_rep(its:List Value):∀(k:Nat) (acc:List Value),
  List.foldl (λx1 x2=>x1++x2) acc.toArray (List.replicate k its.toArray)=(acc++(List.replicate k its).flatten).toArray
 | 0,acc=>by simp
 |k+1,acc=>by
  have e:acc.toArray++its.toArray=(acc++its).toArray:=by simp
  have e2:(acc++its)++(List.replicate k its).flatten=acc++(List.replicate (k+1) its).flatten:=by
   rw[List.replicate_succ,List.flatten_cons,zJ]
  rw[<-e2,<-foldl_rep its k (acc++its),<-e,List.replicate_succ,List.foldl_cons]
section
variable {X:Cx}{pins:List (Addr×Obj)}{σ:St}{H:Hp}{s:Shared}{l b:Addr}{xs ys zs:List V}
theorem Inv.lset{its its':List Value}{n:Nat}{f:Array Value->Array Value}{t':Nat}(I:Inv X pins σ H s)(hH:H l=some (.lst xs))
  (e:s.heap.get? l=some {cls:=.type "list",data:=.seq its.toArray n}) (hf:f its.toArray=its'.toArray) (hv:aR ys its') (hz:ys.length<=sizeLine):
  Inv X pins σ (upd H l (.lst ys)) {s with heap:=s.heap.update l (Obj.mapSeq f),toks:=t'}:=by
 have q:=PySem.IsL.update e f;rw[hf] at q;refine I.write (x:=l) (e:=l) (by rw[hH];exact trivial) (.inl rfl) (λb' u hb hu=>(jc s.heap (Obj.mapSeq f) (Ne.symm hb)).trans hu) ⟨_,q⟩ ?_;exact⟨hz,its',_,hv,q⟩
theorem Inv.lnew{its:List Value}{t':Nat}(I:Inv X pins σ H s)(hv:aR ys its)(hz:ys.length<=sizeLine):
  Inv X pins σ (upd H s.heap.objs.size (.lst ys)) {s with heap:=s.heap.push {cls:=.type "list",data:=.seq its.toArray},toks:=t'}:=
 I.laid (λ_ _ q=>zu _ q) (zb _) ⟨hz,its,0,hv,zH _ rfl⟩
theorem Inv.fresh(I:Inv X pins σ H s):H s.heap.objs.size=none:=I.hok.fresh (zb _)
theorem Inv.lstM(I:Inv X pins σ H s)(hH:H l=some (.lst xs)):xs.length<=sizeLine/\∃(its:List Value) (n:Nat),aR xs its/\xs.length=its.length/\s.heap.get? l=some {cls:=.type "list",data:=.seq its.toArray n}:=by
 obtain⟨z,its,n,r,e⟩:=I.hok l _ hH;exact⟨z,its,n,r,r.length,e⟩
theorem FJ{n:Nat}(h:n<=sizeLine):Builtin.List.listTooLong n=false:=by
 unfold Builtin.List.listTooLong;exact zo (by omega)
end
section
variable {X:Cx}
def Ri:V->List V->Hp->VK->Prop:=λx vs H Q=>∃l xs y,x=.ref l/\vs=[y]/\H l=some (.lst xs)/\xs.length<sizeLine/\Q .non (upd H l (.lst (xs++[y])))
theorem Rj:MtM X "list.append" Ri:=by
 intro pins s σ H x vs v us Q I rx rv h;obtain⟨l,xs,y,rfl,rfl,hH,hz,q⟩:=h;cases rx;obtain⟨u,rfl,ru⟩:=rv.one;obtain⟨z,its,n,r,hl,e⟩:=I.lstM hH;refine call_meets F.slot_list_append ⟨_,e,rfl⟩ F.entry_list_append (F.args_list_append_2 _ _) (PySem.list_append l its.toArray n u (by rw[zq];omega)) ⟨e,?_⟩;refine⟨.non,_,I.lset (its':=its++[u]) hH e (by simp) (r.append (.cons ru .nil)) ?_,rfl,q⟩;rw[ze,zY];omega
theorem len_rep{α:Type}(xs:List α)(k:Nat):(List.replicate k xs).flatten.length=k * xs.length:=by
 induction k with
 |zero=>simp
 |succ k ih=>rw[List.replicate_succ,List.flatten_cons,ze,ih,Nat.succ_mul,Nat.add_comm]
end
section
variable {prog:Program}{w:World}{A:Around}{E:Value->Shared->Prop}{s:Shared}
end
section
variable {X:Cx}
end
end L2
namespace Att
open PySem PySem.W PySem.Calls PyProof.Rows
theorem Rk{P:Params}{h:Heap}:∀(ns:List Int) (vs:List Value),WellAll P h vs (ns.map WData.int)->IntsAre vs ns:=by
 intro ns
 induction ns with
 |nil =>
  intro vs w;rw[zN] at w;cases w;exact .nil
 |cons n ns ih =>
  intro vs w;rw[zj] at w
  cases w with
  |cons a b =>
   cases a;exact .cons _ _ (ih _ b)
theorem Rn{l:OpenLaw}{n:Nat}(hn:l.most=some n){P:Params}{h:Heap}{args:List WData}{vals:List Value}
  (hpre:l.row.toRowW.claim.pre args=true) (hwl:WellAll P h vals args):
  ∃a vs ns,vals=[Value.ref a]/\args=[WData.list (ns.map WData.int)]/\h.get? a=some {cls:=.type "list",data:=.seq vs.toArray}/\IntsAre vs ns/\ns.length<=n:=by
 have hsh:WShape.hasAll [] args [.list .int]=true:=(pre_splitW hpre).1;have hc:l.pre.holds [] {args:=args}=true:=(pre_splitW hpre).2;obtain⟨d,r,rfl,h1,h2⟩:=hasAllW_cons hsh;obtain rfl:=hasAllW_nil h2;obtain⟨xs,rfl,h3⟩:=hasW_list h1;obtain⟨ns,rfl⟩:=items_int h3
 have hlen:ns.length<=n:=by
  unfold OpenLaw.pre at hc
  have h4:(WTm.not (.lt (.lit (.int (n:Int))) (.len (.arg 0)))).holds [] {args:=[.list (ns.map .int)]}=true:=by
   have h4:=(holds_andW hc).1;rw[hn] at h4;exact h4
  have h5:=condW_of h4 (w_not (w_lt w_lit (w_len_list (w_arg rfl))));rw[zd] at h5
  refine Nat.le_of_not_lt λq=>?_
  have q':(n:Int)<((ns.length:Nat):Int):=by omega
  first
   | (rw[zz q'] at h5;exact absurd h5 (by decide))
   | (simp at h5;omega)
 cases hwl with
 |cons w1 w2 =>
  cases w2
  cases w1 with
  |list ho hall=>exact⟨_,_,ns,rfl,rfl,ho,Rk ns _ hall,hlen⟩
theorem Ro(l:OpenLaw)(args:List WData):l.row.toRowW.claim.post args (.bool true) args=true :=
 postW_of (r:=l.row.toRowW) (X:=(true == true))
  (show WShape.has [] (.bool true) .bool=true by first | rfl | decide | simp[WShape.has,WShape.arms,WShape.armsAll])
  (show(WTm.eq .res (.lit (.bool true))).value [] {args:=args,res:=some (.bool true),after:=args}=some (.bool (true == true)) from w_eq_bool (w_res rfl) w_lit) rfl
theorem attach_call{l:OpenLaw}{n:Nat}{q:Program}{loose:List Str}{XP:(Str->Option Value)->Heap->Prop}{YP:World->Heap->Prop}{d:DefRec}
  (hn:l.most=some n) (hdf:d.params.defaults=[])
  (call:∀(w:World) (s₀ s₁:Shared) (mg mb:Str->Option Value) (fa:Addr) (o:Obj) (pm cd doc:Value) (a:Addr) (vs:List Value) (ns:List Int),
   Ground q loose [] XP w s₀ mg mb s₁.heap->YP w s₁.heap ->
   s₁.heap.get? fa=some o->o.data=.func (docDef d.name d.params d.body d.scope pm cd doc)->s₁.heap.CodeRec cd d.name->mg d.name=some (.ref fa) ->
   s₁.heap.get? a=some {cls:=.type "list",data:=.seq vs.toArray}->IntsAre vs ns->ns.length<=n->s₁.gens = #[] ->
   codeAny (model l.prog w) callerA (.call (.ref fa) ⟨[.ref a],[]⟩) (λr s'=>r=.ok (.ret (.bool true))/\OldK s₁.heap s'.heap/\s'.os=s₁.os/\AllBare s'.gens) s₁):
  WalkO q loose XP YP l.row.toRowW d [] (λf vs=>PySem.call f vs):=by
 intro w s₀ s₁ mg mb G Y fa o pm cd doc dV kV ho hd hcd hD hmg hg args vals as hpre hlay hrd hwl hlo;obtain rfl:dV=.none:=Dflts.none hD hdf;obtain rfl:kV=.none:=Dflts.noKw hD;obtain⟨a,vs,ns,rfl,rfl,hobj,hints,hlen⟩:=Rn hn hpre hwl;refine enter_call (codeAny_mono (call w s₀ s₁ mg mb fa o pm cd doc a vs ns G Y ho (fd_plain hd) hcd hmg hobj hints hlen hg) λr s' hq=>?_);obtain⟨rfl,h2,h3,h4⟩:=hq;exact⟨.inl ⟨.bool true,.bool true,[],rfl,λ_=>rfl,.bool true,Ro l _,λ_=>⟨List.Pairwise.nil,λ_ hm=>(nomatch hm)⟩⟩,h2,h3,h4⟩
section
variable {prog:Program}{w:World}{A:Around}{E:Value->Shared->Prop}{s:Shared}{K:Frag}
end
end Att
namespace L2
open PySem PySem.Spec PyProof.Rows
theorem w5:∀{vs:List Value}{ns:List Int},IntsAre vs ns->aR (ns.map V.int) vs
 | _,_,.nil=>.nil
 | _,_,.cons n t h=>.cons ⟨t,rfl⟩ (w5 h)
def lX(H:Hp):Prop:=∀b,H b=none\/∃o xs,H b=some (.frz o (.lst xs))
theorem Rq{P:Program}{w:World}{K:PySem.W.Frag}{mg mb:Str->Option Value}{CX:CXT}{k:Nat}{fa a:Addr}{fd:FuncData}{x:Str}{sp:Sp}{s₁:Shared}{vs:List Value}{ns:List Int}
  (KX:K.In s₁.heap) (hns:s₁.heap.Ns mainGlobals mg) (hb:s₁.heap.Ns builtinsNs mb) (hbb:∀x:Str,x≠"__name__"->mb x=bootBuiltins x) (hlim:s₁.heap.NoLimit) (hg:s₁.gens = #[])
  (ha:s₁.heap.get? a=some {cls:=.type "list",data:=.seq vs.toArray}) (hi:IntsAre vs ns) (hl:ns.length<=sizeLine) (hr:bG k callerA)
  (F:∀base:Heap,K.In base->base.Ns mainGlobals mg->dJ P w K mg base CX k fa fd [x] sp) (hbind:∀(s:Shared) (u:Value),BindsTo s fd ⟨[u],[]⟩ [(x,u)])
  (hsp:∀H:Hp,lX H->SqL K H a (ns.map V.int)->sp [.ref a] H (λv _=>v=.bl true) λ_ _ _=>False)
  (hCX:∀H e s',CX [] H s₁ (λ_ _ _=>False) e s'->False):
  codeAny (model P w) callerA (.call (.ref fa) ⟨[.ref a],[]⟩) (λr s'=>r=.ok (.ret (.bool true))/\OldK s₁.heap s'.heap/\s'.os=s₁.os/\AllBare s'.gens) s₁:=by
 have rv:=w5 hi;have lenV:=hi.length;have core:∀H:Hp,lX H->SqL K H a (ns.map V.int)->HOk P w H s₁.heap->(∀b,H b≠none->b=a)->(H a≠none->K.lookup a=none) ->
   codeAny (model P w) callerA (.call (.ref fa) ⟨[.ref a],[]⟩) (λr s'=>r=.ok (.ret (.bool true))/\OldK s₁.heap s'.heap/\s'.os=s₁.os/\AllBare s'.gens) s₁:=by
  intro H hO hS hok hA hK
  have base_of:∀{b:Addr}{o:Obj},s₁.heap.get? b=some o->H b=none->(fY s₁.heap H).get? b=some o:=λe n=>DR e n
  have noA:∀{b:Addr}{o:Obj}{es:Array DictEntry}{ep:Nat},s₁.heap.get? b=some o->o.data=.dict es ep->H b=none:=λ{b o es ep} e d=>by
   cases q:H b with
   |none=>rfl
   |some u =>
    have e':b=a:=hA b (by rw[q];simp);subst e';rw[ha] at e;cases e;have d':Data.seq vs.toArray _=Data.dict es ep:=d;cases d'
  have nsK:∀{b:Addr}{m:Str->Option Value},s₁.heap.Ns b m->(fY s₁.heap H).Ns b m:=λ{b m} ⟨o,es,ep,e,d,r⟩=>⟨o,es,ep,base_of e (noA e d),d,r⟩
  have hKb:K.In (fY s₁.heap H):=λb o e=>base_of (KX b o e) (by
   cases q:H b with
   |none=>rfl
   |some u =>
    have e':b=a:=hA b (by rw[q];simp);subst e'
    rw[hK (by rw[q];simp)] at e;cases e)
  have hM:Mod K mg (fY s₁.heap H):=⟨hKb,nsK hns,⟨mb,nsK hb,hbb⟩,let ⟨mc,h1,h2⟩:=hlim;⟨mc,nsK h1,h2⟩⟩;have e0:kJ P w K mg (fY s₁.heap H) callerA [] s₁ H:=⟨rfl,hM,λb o e=>DW e,Nat.le_of_eq (DQ _ _),trivial,λb hb=>absurd (show b∈([]:List Addr) from hb) (by simp),hok,.of_eq hg⟩
  refine codeAny_mono ((F _ hKb (nsK hns)).run callerA [] s₁ H ⟨[.ref a],[]⟩ [.ref a] [.ref a] _ _ hr e0 (hbind s₁ (.ref a)) (.cons rfl .nil) (hsp H hO hS)) λr s' h=>?_
  cases r with
  |error e=>exact(hCX H e s' h).elim
  |ok fl =>
   cases fl with
   |next=>exact False.elim h
   |brk=>exact False.elim h
   |cont=>exact False.elim h
   |ret u =>
    obtain⟨v,H',os,bare,un,hok',r',q⟩:=h;have q':v=.bl true:=q;subst q';obtain rfl:u=Value.bool true:=r';refine⟨rfl,OldK.of_keep λb o e=>?_,os,bare⟩
    cases q:H b with
    |none=>exact un.keep b o e q (by intro z;exact absurd (show b∈([]:List Addr) from z) (by simp)) (by simp)
    |some u =>
     rcases hO b with z | ⟨ob,xs,z⟩
     ·rw[q] at z;cases z
     ·have z2:=un.frzs b ob _ z;obtain⟨e1,_⟩:=hok b _ z;obtain⟨e2,_⟩:=hok' b _ z2;rw[e] at e1;cases e1;exact e2
 cases hk:K.lookup a with
 |some o =>
  have e:=KX a o hk;rw[ha] at e;cases e
  refine core (λ_=>none) (λ_=>.inl rfl) (.inr ⟨_,vs.toArray,_,hk,rfl,rfl,rfl,by rw[zq,lenV];exact hl,by simpa using rv⟩) (λb u z=>by have z':(none:Option HO)=some u:=z;cases z') (λb z=>absurd rfl z) λz=>absurd rfl z
 |none =>
  refine core (λb=>if b=a then some (.frz {cls:=.type "list",data:=.seq vs.toArray} (.lst (ns.map V.int))) else none) (λb=>?_) (.inl (.inr ⟨{cls:=.type "list",data:=.seq vs.toArray},if_pos rfl⟩)) (λb u z=>?_) (λb z=>?_) λ_=>hk
  ·by_cases hb:b=a
   ·exact .inr ⟨_,_,if_pos hb⟩
   ·exact .inl (if_neg hb)
  ·by_cases hb:b=a
   ·have z':=(if_pos hb).symm.trans z;cases z';subst hb;exact⟨ha,by rw[zd];exact hl,vs,_,rv,ha⟩
   ·have z':=(if_neg hb).symm.trans z;cases z'
  ·by_cases hb:b=a
   ·exact hb
   ·exact absurd (if_neg hb) z
abbrev KOf{K:PySem.W.Frag}{h:Heap}(_:K.In h):PySem.W.Frag:=K
theorem walk_of{l:PySem.W.OpenLaw}{n k:Nat}{q:Program}{loose:List Str}{XP:(Str->Option Value)->Heap->Prop}{YP:World->Heap->Prop}{d:DefRec}{K:Params->PySem.W.Frag}{CX:World->CXT}{sp:World->Sp}{x:Str}
  (hn:l.most=some n) (hn2:n<=sizeLine) (hdf:d.params.defaults=[]) (hr:bG k callerA)
  (hY:∀(w:World) (h:Heap),YP w h->(K w.params).In h)
  (F:∀(w:World) (mg:Str->Option Value) (fa:Addr) (h:Heap),(K w.params).In h->h.Ns mainGlobals mg->mg d.name=some (.ref fa) ->
   ∃fd:FuncData,(∀(s:Shared) (u:Value),BindsTo s fd ⟨[u],[]⟩ [(x,u)]) /\
    ∀base:Heap,(K w.params).In base->base.Ns mainGlobals mg->dJ l.prog w (K w.params) mg base (CX w) k fa fd [x] (sp w))
  (hsp:∀(w:World) (H:Hp) (a:Addr) (ns:List Int),ns.length<=n->lX H->SqL (K w.params) H a (ns.map V.int)->sp w [.ref a] H (λv _=>v=.bl true) λ_ _ _=>False)
  (hCX:∀(w:World) (H:Hp) (s:Shared) (e:Value) (s':Shared),CX w [] H s (λ_ _ _=>False) e s'->False):
  PySem.W.WalkO q loose XP YP l.row.toRowW d [] (λf vs=>PySem.call f vs):=by
 refine Att.attach_call hn hdf λw s₀ s₁ mg mb fa o pm cd doc a vs ns G Y ho hd hcd hmg hobj hints hlen hg=>?_
 have KX:=hY w _ Y;obtain⟨fd,hb,hF⟩:=F w mg fa _ KX G.T.g hmg
 exact Rq KX G.T.g G.T.b G.T.builtins G.T.nolimit hg hobj hints (zG hlen hn2) hr hF hb (λH hO hS=>hsp w H a ns hlen hO hS) λH e s'=>hCX w H s₁ e s'
end L2
/- THE LAST THEOREM (shape;LID,My.* are yours):
   My.Adr: a structure of the addresses that your layer names (classes,functions);My.Txt K t: a structure (Prop) of the equations over K;
   My.txt_mk:{K}{implicit addresses ..} (e1:nsIn K mainGlobals "law" = some (some (.ref f))) (e2:K.lookup f=some ⟨oc,od,.func (fnOf "law" "law" params body scope dV kV doc pm an cdv ct),sl⟩) (e3:codeIn K cdv "law" = true) ..:∃t,My.Txt K t
set_option maxRecDepth 100000 in
set_option maxHeartbeats 0 in
theorem PySem.Challenge.cw_LID_holds : PySem.Challenge.rw_LID.Holds := by
 w_on;o_law;k_head;(case hw=>w_witness2)
 k_fill
 refine L2.walk_of (l:=PySem.Challenge.rw_LID) (n:=63) (k:=40) (x:="script") (CX:=λw=>..) (sp:=λ_=>My.sp_law) rfl (by decide) rfl ⟨rfl,by decide,by decide⟩ (λw h Y=>PySem.W.kIn_of Y) ?F ?S ?C
 case F =>
  intro w mg fa h KX G hmg
  have T:∃t,My.Txt (L2.KOf KX) t:=by
   dsimp only[L2.KOf]                          -- K must stand as «<heap const> w.params» for k_is
   refine' My.txt_mk ?e1 ?e2 ?e3 ..
   (case e1=>PySem.W.k_is)                    -- in the order: a name -> its address -> its object -> its parts
   (case e2=>PySem.W.k_is)
   ..
  obtain⟨t,T⟩:=T;have e0:=hmg.symm.trans (PySem.W.mg_of KX G T.law);cases e0                                       -- fa is the law's own address
  exact⟨_,λs u=>.of_eq rfl,λbase kb nb=>My.law_fn T kb nb⟩     -- if «.of_eq rfl» comes too early: refine'⟨_,?b,λbase kb nb=>My.law_fn T kb nb⟩;exact λs u=>.of_eq rfl
 case S=>exact λw H a ns hl hO hS=>..
 case C=>exact ..
(the tactic k_is has no namespace: write k_is) -/
namespace L2
open PySem PySem.Spec PyProof.Rows
def inClass(s:Stmt)(j:Nat):Stmt:=match s with
 | .ClassDef _ _ _ body _ _ _ _ _ _ _=>body.getD j (.Pass ⟨0,0,0,0⟩)
 | _=>.Pass ⟨0,0,0,0⟩
def g8(s:Stmt):Arguments:=match s with
 | .FunctionDef _ a _ _ _ _ _ _ _ _=>a
 | _=>{posonlyargs:=[],args:=[],vararg:=none,kwonlyargs:=[],kw_defaults:=[],kwarg:=none,defaults:=[]}
def eU(s:Stmt):List Stmt:=match s with
 | .FunctionDef _ _ b _ _ _ _ _ _ _=>b
 | _=>[]
def aY(s:Stmt):Scope:=match s with
 | .FunctionDef _ _ _ _ _ _ sc _ _ _=>sc
 | _=>{kind:=.function,names:=[],isGenerator:=false,isCoroutine:=false}
abbrev CX0:CXT:=λ_ _ _ _ _ _=>False
abbrev E0:XK:=λ_ _ _=>False
theorem tE{X:Cx}:lW CX0 X E0:=λ_ _ _ _ _ _ _ h=>h.elim
structure Fun(K:PySem.W.Frag)(x qual:Str)(st:Stmt)(f:Addr)(fd:FuncData):Prop where
 ex:∃(oc:Value) (od:Option Addr) (kV doc pm:Value) (an:Option Addr) (cdv ct:Value) (osl:Array (Option Value)),
  fd=PySem.W.fnOf x qual (g8 st) (eU st) (aY st) .none kV doc pm an cdv ct/\K.lookup f=some ⟨oc,od,.func fd,osl⟩/\PySem.W.codeIn K cdv qual=true
 kp:PySem.W.keepIn K (.ref f)=true
section
variable {P:Program}{w:World}{K:PySem.W.Frag}{mg:Str->Option Value}{base:Heap}
theorem Fun.ok{x qual:Str}{st:Stmt}{f:Addr}{fd:FuncData}{N ps:List Str}{k:Nat}{sp:Sp}(F:Fun K x qual st f fd)(S:bN N ps (aY st))(len:∀vs H Q E,sp vs H Q E->vs.length=ps.length)
  (hbody:∀(cdv:Value) (A:Around) (outer:List Env) (s:Shared) (H:Hp) (vs:List V) (Q:VK) (E:XK),bG k (A.deeper (envOfC qual (aY st) s.heap.objs.size f cdv))->sp vs H Q E ->
   ∃t,PSs (iD CX0 P w K mg base N qual (aY st) f cdv A outer s H E).nox (eU st) t/\t {nx:=λ_ H'=>Q .non H',rt:=Q} (start N vs) H):dJ P w K mg base CX0 (k+1) f fd ps sp:=by
 obtain⟨oc,od,kV,doc,pm,an,cdv,ct,osl,rfl,lk,hcd⟩:=F.ex
 refine QF lk hcd S len λA outer s H vs Q E hr hsp=>?_
 obtain⟨t,h,q⟩:=hbody cdv A outer s H vs Q E hr hsp;exact⟨t,h.nox,q⟩
theorem Fun.binds{x qual:Str}{st:Stmt}{f:Addr}{fd:FuncData}{ps:List Str}(F:Fun K x qual st f fd)
  (h:∀(kV doc pm:Value) (an:Option Addr) (cdv ct:Value) (us:List Value),us.length=ps.length->bindArgs (PySem.W.fnOf x qual (g8 st) (eU st) (aY st) .none kV doc pm an cdv ct) ⟨us,[]⟩=pure (ps.zip us)):Binds K fd ps []:=by
 obtain⟨oc,od,kV,doc,pm,an,cdv,ct,osl,rfl,lk,hcd⟩:=F.ex;exact .all (h kV doc pm an cdv ct)
theorem w6{x qual:Str}{st:Stmt}{f:Addr}{oc:Value}{od an:Option Addr}{osl:Array (Option Value)}{kV doc pm cdv ct:Value}(l:K.lookup f=some ⟨oc,od,.func (PySem.W.fnOf x qual (g8 st) (eU st) (aY st) .none kV doc pm an cdv ct),osl⟩)
  (c:PySem.W.codeIn K cdv qual=true) (k:PySem.W.keepIn K (.ref f)=true):Fun K x qual st f (PySem.W.fnOf x qual (g8 st) (eU st) (aY st) .none kV doc pm an cdv ct):=⟨⟨oc,od,kV,doc,pm,an,cdv,ct,osl,rfl,l,c⟩,k⟩
end
theorem xf{A:Around}{k:Nat}(hr:bG k A):A.units+1<cLine:=Nat.lt_of_le_of_lt (Nat.add_le_add_left (by decide:1<=64) _) hr.units
section
variable {X:Cx}
end
def Same(H H':Hp):Prop:=∀b o,H b=some o->H' b=some o
theorem Same.refl(H:Hp):Same H H:=λ_ _ h=>h
theorem Same.trans{H H1 H2:Hp}(a:Same H H1)(b:Same H1 H2):Same H H2:=λc o h=>b c o (a c o h)
theorem Same.seq{K:PySem.W.Frag}{H H':Hp}{a:Addr}{xs:List V}(e:Same H H')(h:SqL K H a xs):SqL K H' a xs:=by
 rcases h with(h | ⟨o,h⟩) | h
 ·exact .inl (.inl (e _ _ h))
 ·exact .inl (.inr ⟨o,e _ _ h⟩)
 ·exact .inr h
section
variable {κ:Type}[DecidableEq κ]
def gq(kvs:List (κ×V))(k:κ):Option V:=(kvs.find? λkv=>decide (kv.1=k)).map (·.2)
def putK(kvs:List (κ×V))(k:κ)(v:V):List (κ×V):=
 if(kvs.any λkv=>decide (kv.1=k))=true then kvs.map (λkv=>if kv.1=k then(kv.1,v) else kv) else kvs++[(k,v)]
theorem tG{p:κ×V}{r:List (κ×V)}{k:κ}(e:p.1=k):gq (p::r) k=some p.2:=by simp[gq,List.find?_cons,e]
theorem tH{p:κ×V}{r:List (κ×V)}{k:κ}(e:¬p.1=k):gq (p::r) k=gq r k:=by simp[gq,List.find?_cons,e]
theorem FN(k:κ):∀kvs:List (κ×V),(kvs.any λkv=>decide (kv.1=k))=(gq kvs k).isSome
 | []=>rfl
 |p::r=>by
  rw[List.any_cons]
  by_cases e:p.1=k
  ·simp only[tG e,zz e,Bool.true_or,Option.isSome_some]
  ·rw[tH e,zo e,Bool.false_or];exact FN k r
theorem FP(kvs:List (κ×V))(k:κ)(v:V):(putK kvs k v).length<=kvs.length+1:=by
 unfold putK
 split
 ·rw[zd];omega
 ·rw[ze,zE,jh];omega
theorem fJ.isSome_eq{o:Option V}{u:Option Value}(r:fJ o u):o.isSome=u.isSome:=by
 cases o with
 |none=>cases u with
  |none=>rfl
  |some _=>exact(show False from r).elim
 |some _=>cases u with
  |none=>exact(show False from r).elim
  |some _=>rfl
theorem KV.val{kvs:List (κ×V)}{vs:List (κ×Value)}(r:KV kvs vs)(k:κ):fJ (gq kvs k) (valueAt vs k):=by
 unfold KV at r
 induction r with
 |nil=>exact True.intro
 | @cons p q ps qs h t ih =>
  obtain⟨h1,h2⟩:=h
  by_cases e:p.1=k
  ·have e':q.1=k:=h1.symm.trans e
   have b:valueAt (q::qs) k=some q.2:=by simp[valueAt,List.find?_cons,e']
   rw[tG e,b];exact h2
  ·have e':¬q.1=k:=λz=>e (h1.trans z)
   have b:valueAt (q::qs) k=valueAt qs k:=by simp[valueAt,List.find?_cons,e']
   rw[tH e,b];exact ih
theorem KV.any{kvs:List (κ×V)}{vs:List (κ×Value)}(r:KV kvs vs)(k:κ):(kvs.any λkv=>decide (kv.1=k))=vs.any λkv=>decide (kv.1=k):=by
 unfold KV at r
 induction r with
 |nil=>rfl
 |cons h t ih=>rw[List.any_cons,List.any_cons,ih,h.1]
theorem KV.repl{kvs:List (κ×V)}{vs:List (κ×Value)}(r:KV kvs vs)(k:κ){y:V}{u:Value}(ry:RelV y u):
  KV (kvs.map λkv=>if kv.1=k then(kv.1,y) else kv) (vs.map λkv=>if kv.1=k then(kv.1,u) else kv):=by
 unfold KV at r ⊢
 induction r with
 |nil=>exact .nil
 | @cons p q ps qs h t ih =>
  rw[zj,zj];refine .cons ?_ ih;obtain⟨h1,h2⟩:=h
  by_cases e:p.1=k
  ·rw[if_pos e,if_pos (h1.symm.trans e)];exact⟨h1,ry⟩
  ·rw[if_neg e,if_neg (λz=>e (h1.trans z))];exact⟨h1,h2⟩
theorem KV.put{kvs:List (κ×V)}{vs:List (κ×Value)}(r:KV kvs vs)(k:κ){y:V}{u:Value}(ry:RelV y u):KV (putK kvs k y) (stored vs k u):=by
 unfold putK stored;rw[r.any k]
 by_cases e:(vs.any λkv=>decide (kv.1=k))=true
 ·rw[if_pos e,if_pos e];exact r.repl k ry
 ·rw[if_neg e,if_neg e];exact Paired.snoc r ⟨rfl,ry⟩
theorem KV.length{kvs:List (κ×V)}{vs:List (κ×Value)}(r:KV kvs vs):kvs.length=vs.length:=Paired.length r
end
theorem xg{P:Program}{w:World}{k:Key}{u:Value}(r:RelV (kV k) u):(fP P w).is k u=true:=by
 cases k with
 |inl i=>obtain⟨t,e⟩:=(show ∃t,u=Value.int i t from r);subst e;exact MF P w i t
 |inr x=>obtain⟨t,e⟩:=(show ∃t,u=Value.str x t from r);subst e;exact MJ P w x t
theorem FQ{P:Program}{w:World}:∀{ks:List Key}{us:List Value},aR (ks.map kV) us->ItemsAre (fP P w) ks us
 | [],_,r=>by rw[zN] at r;cases r;exact .nil
 |k::ks,_,r=>by
  rw[zj] at r
  cases r with
  |cons h t=>exact .cons (xg h) (FQ t)
abbrev KT(H:Hp):List (List Key×V)->List (List Key×Addr×Value)->Prop:=Paired λp q=>p.1=q.1/\H q.2.1=some (.tup (p.1.map kV))/\RelV p.2 q.2.2
theorem KT.val{H:Hp}{kvs:List (List Key×V)}{xs:List (List Key×Addr×Value)}(r:KT H kvs xs)(k:List Key):fJ (gq kvs k) ((atKey xs k).map (·.2)):=by
 induction r with
 |nil=>exact True.intro
 | @cons p q ps qs h t ih =>
  obtain⟨h1,_,h2⟩:=h
  by_cases e:p.1=k
  ·have e':q.1=k:=h1.symm.trans e
   have b:atKey (q::qs) k=some q.2:=by simp[atKey,List.find?_cons,e']
   rw[tG e,b];exact h2
  ·have e':¬q.1=k:=λz=>e (h1.trans z)
   have b:atKey (q::qs) k=atKey qs k:=by simp[atKey,List.find?_cons,e']
   rw[tH e,b];exact ih
theorem KT.repl{H:Hp}{kvs:List (List Key×V)}{xs:List (List Key×Addr×Value)}(r:KT H kvs xs)(k:List Key){y:V}{u:Value}(ry:RelV y u):
  KT H (kvs.map λkv=>if kv.1=k then(kv.1,y) else kv) (xs.map (putAt k u)):=by
 induction r with
 |nil=>exact .nil
 | @cons p q ps qs h t ih =>
  rw[zj,zj];refine .cons ?_ ih;obtain⟨h1,h2,h3⟩:=h;unfold putAt
  by_cases e:p.1=k
  ·rw[if_pos e,if_pos (h1.symm.trans e)];exact⟨h1,h2,ry⟩
  ·rw[if_neg e,if_neg (λz=>e (h1.trans z))];exact⟨h1,h2,h3⟩
theorem KT.put{H:Hp}{kvs:List (List Key×V)}{xs:List (List Key×Addr×Value)}(r:KT H kvs xs)(k:List Key){b:Addr}{y:V}{u:Value}(hb:H b=some (.tup (k.map kV)))(ry:RelV y u):
  KT H (putK kvs k y) (storedH xs k b u):=by
 have e:(kvs.any λkv=>decide (kv.1=k))=(atKey xs k).isSome:=by
  rw[FN,(r.val k).isSome_eq,Option.isSome_map]
 unfold putK storedH;rw[e]
 by_cases q:(atKey xs k).isSome=true
 ·rw[if_pos q,if_pos q];exact r.repl k ry
 ·rw[if_neg q,if_neg q];exact Paired.snoc r ⟨rfl,hb,ry⟩
theorem KT.keeps{H H':Hp}{kvs:List (List Key×V)}{xs:List (List Key×Addr×Value)}(r:KT H kvs xs)(ht:∀b ys,H b=some (.tup ys)->H' b=some (.tup ys)):KT H' kvs xs :=
 Paired.mapP r λ_ _ z=>⟨z.1,ht _ _ z.2.1,z.2.2⟩
section
variable {P:Program}{w:World}{H:Hp}{h:Heap}{a:Addr}
theorem FT{u:HO}(ok:HOk P w H h)(e:Rd H a u):cG P w H h a u:=e.ok ok
theorem xj{kvs:List (Key×V)}(ok:HOk P w H h)(e:Rd H a (.dK kvs)):kvs.length<=sizeLine/\(a == sysModules)=false/\∃vs,KV kvs vs/\h.DictOf (fP P w) a vs :=
 show cG P w H h a (.dK kvs) from FT ok e
theorem Rr{kvs:List (Key×V)}(ok:HOk P w H h)(e:H a=some (.dK kvs)):kvs.length<=sizeLine/\(a == sysModules)=false/\∃vs,KV kvs vs/\h.DictOf (fP P w) a vs:=xj ok (.inl e)
theorem xn{ks:List Key}(ok:HOk P w H h)(e:H a=some (.tup (ks.map kV))):(tupleKind (fP P w)).is h ks a:=by
 obtain⟨_,its,r,o,h1,h2,n,h3⟩:=(show cG P w H h a (.tup (ks.map kV)) from ok a _ e);exact⟨o,its.toArray,n,h1,h2,h3,by simpa using FQ r⟩
theorem xq{kvs:List (List Key×V)}(ok:HOk P w H h)(e:Rd H a (.dT kvs)):kvs.length<=sizeLine/\(a == sysModules)=false /\
  ∃xs,KT H kvs xs/\h.DictOfH (tupleKind (fP P w)) a xs:=by
 obtain⟨z,y,xs,r,o,es,ep,h1,h2,h3,h4,h5⟩:=(show cG P w H h a (.dT kvs) from FT ok e);refine⟨z,y,xs,r,o,es,ep,h1,h2,h3,h4,λx hx=>?_,h5⟩
 have all:∀{l:List (List Key×V)}{m:List (List Key×Addr×Value)},KT H l m->∀x∈m,(tupleKind (fP P w)).is h x.1 x.2.1:=by
  intro l m q
  induction q with
  |nil=>intro x hx;exact nomatch hx
  | @cons p q ps qs hq t ih =>
   intro x hx
   rcases zm.mp hx with e | hx
   ·subst e;exact xn ok (by rw[<-hq.1];exact hq.2.1)
   ·exact ih x hx
 exact all r x hx
theorem Rt{kvs:List (List Key×V)}(ok:HOk P w H h)(e:H a=some (.dT kvs)):kvs.length<=sizeLine/\(a == sysModules)=false /\
  ∃xs,KT H kvs xs/\h.DictOfH (tupleKind (fP P w)) a xs:=xq ok (.inl e)
end
def nD(H:Hp)(a:Addr)(y:V)(r:Option V):Prop :=
 (∃kvs k,Rd H a (.dK kvs)/\y=kV k/\r=gq kvs k)\/∃kvs k b,Rd H a (.dT kvs)/\y=.ref b/\H b=some (.tup (k.map kV))/\r=gq kvs k
def pR(H:Hp)(a:Addr)(y v:V)(H':Hp):Prop :=
 (∃kvs k,H a=some (.dK kvs)/\y=kV k/\kvs.length<sizeLine/\H'=upd H a (.dK (putK kvs k v))) \/
 ∃kvs k b,H a=some (.dT kvs)/\y=.ref b/\H b=some (.tup (k.map kV))/\kvs.length<sizeLine/\H'=upd H a (.dT (putK kvs k v))
theorem nD.t{H:Hp}{a b:Addr}{kvs:List (List Key×V)}{k:List Key}(e:H a=some (.dT kvs))(eb:H b=some (.tup (k.map kV))):nD H a (.ref b) (gq kvs k):=.inr ⟨kvs,k,b,.inl e,rfl,eb,rfl⟩
theorem pR.t{H:Hp}{a b:Addr}{kvs:List (List Key×V)}{k:List Key}{v:V}(e:H a=some (.dT kvs))(eb:H b=some (.tup (k.map kV)))(hl:kvs.length<sizeLine):
  pR H a (.ref b) v (upd H a (.dT (putK kvs k v))):=.inr ⟨kvs,k,b,e,rfl,eb,hl,rfl⟩
section
variable {X:Cx}{pins:List (Addr×Obj)}{σ:St}{H:Hp}{s:Shared}{a:Addr}{y v:V}{u r:Value}{o:Option V}{A:Around}{E:Value->Shared->Prop}
theorem Inv.big(I:Inv X pins σ H s):sysModules<s.heap.objs.size:=by
 have h:mainGlobals<s.heap.objs.size:=(I.mod.glob.keeps I.bk).lt;exact Nat.lt_trans (by decide) h
theorem Ru{Q:Value->Shared->Prop}(hu:A.units+1<cLine)(I:Inv X pins σ H s)(g:nD H a y (some v))(ry:RelV y u)(h:∀w' s',Inv X pins σ H s'->RelV v w'->Q w' s'):
  wpAny (model X.prog X.w) A (getItem (.ref a) u) Q E s:=by
 rcases g with⟨kvs,k,e,ey,l⟩ | ⟨kvs,k,b,e,ey,eb,l⟩
 ·subst ey;obtain⟨z,hd,vs,rel,dd⟩:=xj I.hok e;obtain⟨w',hw,rw'⟩:=fJ.some_of (v:=v) (o:=valueAt vs k) (by rw[l];exact rel.val k);exact wpAny_getItem_of (xg ry) dd.mapOf hw (h w' _ (I.tok _) rw')
 ·subst ey;cases(show u=Value.ref b from ry);obtain⟨z,hd,xs,rel,dd⟩:=xq I.hok e;obtain⟨w',hw,rw'⟩:=fJ.some_of (v:=v) (o:=(atKey xs k).map (·.2)) (by rw[l];exact rel.val k);obtain⟨p,hp,hp2⟩:=Option.map_eq_some_iff.mp hw;refine wpAny_getItem_heap (tupleKind_room_in1 hu) (xn I.hok eb) dd hp ?_;rw[hp2];exact h w' _ (I.tok _) rw'
theorem FW{h':Heap}{t':Nat}{ob:HO}(I:Inv X pins σ H s)(mu:Mut (H a))(hs:Heap.SameBut a s.heap h')(he:∃q,h'.get? a=some q)(new:cG X.prog X.w (upd H a ob) h' a ob):
  Inv X pins σ (upd H a ob) {s with heap:=h',toks:=t'}:=
 I.write (x:=a) (e:=a) mu (.inl rfl) (λb q hb z=>(hs.2 b hb).trans z) he new
theorem Rv{P:Program}{w:World}{H':Hp}{h':Heap}{kvs:List (Key×V)}{vs:List (Key×Value)}(z:kvs.length<=sizeLine)(hd:(a == sysModules)=false)(rel:KV kvs vs)(dd:h'.DictOf (fP P w) a vs):
  cG P w H' h' a (.dK kvs):=⟨z,hd,vs,rel,dd⟩
theorem Rw{H':Hp}{Q:Unit->Shared->Prop}(hu:A.units+1<cLine)(I:Inv X pins σ H s)(g:pR H a y v H')(ry:RelV y u)(rv:RelV v r)(h:∀s',Inv X pins σ H' s'->Q () s'):
  wpAny (model X.prog X.w) A (setItem (.ref a) u r) Q E s:=by
 rcases g with⟨kvs,k,e,ey,l,eH⟩ | ⟨kvs,k,b,e,ey,eb,l,eH⟩
 ·subst ey eH;obtain⟨z,hd,vs,rel,dd⟩:=Rr I.hok e
  have hz:vs.length<=sizeLine:=by rw[<-rel.length];exact z
  have hl:(putK kvs k v).length<=sizeLine:=by have:=FP kvs k v;omega
  refine wpAny_setItem_pairs (hsz:=hz) (xg ry) dd λh' dd' hs=>h _ ?_
  have he:∃q,h'.get? a=some q:=let ⟨q,_,_,hq,_⟩:=dd';⟨q,hq⟩;exact FW I (by rw[e];exact True.intro) hs he (Rv hl hd (rel.put k rv) dd')
 ·subst ey eH;cases(show u=Value.ref b from ry);obtain⟨z,hd,xs,rel,dd⟩:=Rt I.hok e
  have hz:xs.length<=sizeLine:=by rw[<-Paired.length rel];exact z
  have hl:(putK kvs k v).length<=sizeLine:=by have:=FP kvs k v;omega
  refine wpAny_setItem_heap (hsz:=hz) (tupleKind_room_in1 hu) (xn I.hok eb) dd λh' dd' hs=>h _ ?_
  obtain⟨q,es,ep,hq,h2,h3,h4,_,h5⟩:=dd';refine FW I (by rw[e];exact True.intro) hs ⟨q,hq⟩ ⟨hl,hd,_,(rel.put k eb rv).keeps λc ys ec=>?_,q,es,ep,hq,h2,h3,h4,h5⟩;rw[aK (ne_of ec e (λz=>nomatch z))];exact ec
end
section
variable {X:Cx}{pins:List (Addr×Obj)}{σ:St}{H:Hp}{s:Shared}{a:Addr}{kvs:List (Key×V)}{k:Key}{u:Value}{A:Around}{E:Value->Shared->Prop}
end
def FZ(i:Expr):Prop:=∀ov iv,subscripted i false ov iv=operate [ov,iv] (getItem ov iv)
theorem Rx{prog:Program}{w:World}{A:Around}{E:Value->Shared->Prop}{s:Shared}{env:Env}{value slice:Expr}{pos:Pos}{T id:String}{Q:Value->Shared->Prop}
  (hl:typeLookup (.type T) "__getitem__" = pure (some (.builtin id))) (hs:FZ slice)
  (h:wpAny (model prog w) A (eval value env) (λo s₁=>wpAny (model prog w) A (eval slice env) (λi s₂=>s₂.TypeIs o T/\wpAny (model prog w) A (getItem o i) Q E s₂) E s₁) E s):
  wpAny (model prog w) A (eval (.Subscript value slice pos) env) Q E s:=by
 refine Subscript_ (zR h (λo s₁ h₁=>zR h₁ (λi s₂ h₂=>?_) λ_ _ x=>x) λ_ _ x=>x);obtain⟨hT,h₂⟩:=h₂;unfold subscriptTail;refine za ?_;rw[getitemInPython_of_ne hT.not_modules];refine za (wpAny_specialOf hT hl ?_)
 have fin:wpAny (model prog w) A (subscripted slice false o i) (λr s₃=>wpAny (model prog w) A (letTemporaryGo value o r >>= λ_=>pure r) Q E s₃) E s₂:=by
  rw[hs o i];exact wpAny_operating (zR h₂ (λr s₃ h₃=>za (wpAny_letTemporaryGo (zc h₃))) λ_ _ x=>x)
 first
  | exact zc (za fin)
  | exact za (zc (za fin))
  | exact za fin
theorem Ry{X:Cx}{pins:List (Addr×Obj)}{σ:St}{H:Hp}{s:Shared}{a:Addr}{y:V}{o:Option V}(I:Inv X pins σ H s)(g:nD H a y o):s.TypeIs (.ref a) "dict":=by
 rcases g with⟨kvs,k,e,_,_⟩ | ⟨kvs,k,b,e,_,_,_⟩
 ·obtain⟨_,_,vs,_,dd⟩:=xj I.hok e;exact dd.typeIs
 ·obtain⟨_,_,xs,_,dd⟩:=xq I.hok e;exact dd.typeIs
def Rz(td ty:TE):TE:=λσ H Q=>td σ H λx H1=>ty σ H1 λy H2=>∃a v,x=.ref a/\nD H2 a y (some v)/\Q v H2
def RB(td ty tv:TE):TS:=λD σ H=>tv σ H λv H1=>td σ H1 λx H2=>ty σ H2 λy H3=>∃a H4,x=.ref a/\pR H3 a y v H4/\D.nx σ H4
section
variable {X:Cx}{o i e value:Expr}{pos pos' tpos:Pos}{td ty tv:TE}
theorem Ga(hu:X.A.units+1<cLine)(ho:PE X o td)(hi:PE X i ty)(hs:FZ i):PE X (.Subscript o i pos) (Rz td ty):=by
 intro pins s σ H Q I h;refine Rx PySem.F.slot_dict_getitem.lookup hs (thn (ho pins s σ H _ I h) λu s1 ⟨x,H1,I1,rx,q1⟩=>thn (hi pins s1 σ H1 _ I1 q1) λiv s2 ⟨y,H2,I2,ry,a,v,ex,g,q2⟩=>?_);subst ex;obtain rfl:u=Value.ref a:=rx;exact⟨Ry I2 g,Ru hu I2 g ry λw' s3 I3 rw'=>⟨v,H2,I3,rw',q2⟩⟩
theorem RC(hu:X.A.units+1<cLine)(ho:PE X o td)(hi:PE X i ty)(hv:PE X value tv)(hs:swapsWith value (some (.Subscript o i pos')) pos.line X.env=pure false):
  PS X (.Assign [.Subscript o i pos'] value pos) (RB td ty tv):=by
 intro pins s σ H D I h;refine wpAny_Assign_Subscript (thn (hv pins s σ H _ I h) λr s1 ⟨v,H1,I1,rv,q1⟩=>thn (ho pins s1 σ H1 _ I1 q1) λu s2 ⟨x,H2,I2,rx,q2⟩=>thn (hi pins s2 σ H2 _ I2 q2) λiv s3 ⟨y,H3,I3,ry,a,H4,ex,g,q3⟩=>?_) hs;subst ex;obtain rfl:u=Value.ref a:=rx
 exact Rw hu I3 g ry rv λs4 I4=>⟨σ,H4,I4,q3⟩
end
theorem RD{P:Program}{w:World}{H:Hp}(h:Heap)(hb:sysModules<h.objs.size):cG P w H (h.push {cls:=.type "dict",data:=.dict #[]}) h.objs.size (.dT []):=
 ⟨Nat.zero_le _,beq_eq_false_iff_ne.mpr (Ne.symm (zB hb)),[],.nil,_,#[],0,zH _ rfl,⟨rfl,rfl,rfl⟩,rfl,rfl,List.nodup_nil⟩
def RG:TE:=λ_ H Q=>∀p,H p=none->Q (.ref p) (upd H p (.dT []))
section
variable {X:Cx}{pos:Pos}
theorem RJ:PE X (.Dict [] [] pos) RG:=λpins s σ H Q I h =>
 wpAny_Dict_empty ⟨.ref s.heap.objs.size,_,I.laid (a:=s.heap.objs.size) (o:=.dT []) (t':=s.toks) (λ_ _ q=>zu _ q) (zb _) (RD s.heap I.big),rfl,h _ (I.hok.fresh (zb _))⟩
end
def xu:List (TE×TE)->St->Hp->(List (V×V)->Hp->Prop)->Prop
 | [],_,H,Q=>Q [] H
 | (tk,tv)::r,σ,H,Q=>tk σ H λx H1=>tv σ H1 λy H2=>xu r σ H2 λps H3=>Q ((x,y)::ps) H3
abbrev VV:List (V×V)->List (Value×Value)->Prop:=Paired λp q=>RelV p.1 q.1/\RelV p.2 q.2
def PPs(X:Cx)(pos:Pos)(keys:List (Option Expr))(values:List Expr)(trs:List (TE×TE)):Prop :=
 ∀(pins:List (Addr×Obj)) (s:Shared) (σ:St) (H:Hp) (Q:List (V×V)->Hp->Prop),Inv X pins σ H s->xu trs σ H Q ->
  wpAny (model X.prog X.w) X.A (evalPairs (pairTrees keys values X.env pos)) (λvs s'=>∃ps H',Inv X pins σ H' s'/\VV ps vs/\Q ps H') X.xe s
structure M1(X:Cx)(o:Expr)(m:Str)(apos:Pos)(e:Expr)(cpos:Pos):Prop where
 base:attributeBase o m X.env (eval o X.env)=eval o X.env
 few:((backTo cpos (starEach [e] X.env)).all (λx=>!x.1)&&(backToKw cpos (keywordEach [] X.env)).all (λx=>x.1.isSome)
  && decide (([e]:List Expr).length+([]:List Keyword).length+(if([]:List Keyword).isEmpty then 0 else 1)<30))=true
 line:(apos.endLine == cpos.line)=true
 trees:backTo cpos (starEach [e] X.env)=[(false,eval e X.env)]
structure M2(X:Cx)(o:Expr)(m:Str)(apos:Pos)(e f:Expr)(cpos:Pos):Prop where
 base:attributeBase o m X.env (eval o X.env)=eval o X.env
 few:((backTo cpos (starEach [e,f] X.env)).all (λx=>!x.1)&&(backToKw cpos (keywordEach [] X.env)).all (λx=>x.1.isSome)
  && decide (([e,f]:List Expr).length+([]:List Keyword).length+(if([]:List Keyword).isEmpty then 0 else 1)<30))=true
 line:(apos.endLine == cpos.line)=true
 trees:backTo cpos (starEach [e,f] X.env)=[(false,eval e X.env),(false,eval f X.env)]
section
variable {X:Cx}{pins:List (Addr×Obj)}{σ:St}{H:Hp}{s:Shared}{a:Addr}{y d:V}{u r:Value}{o:Option V}{A:Around}{E:Value->Shared->Prop}
end
section
variable {X:Cx}{o e f:Expr}{apos cpos:Pos}{td ty tx:TE}
end
section
variable {X:Cx}{pins:List (Addr×Obj)}{σ:St}{H:Hp}{s:Shared}{a:Addr}{kvs:List (Key×V)}{A:Around}{E:Value->Shared->Prop}
end
section
variable {X:Cx}{pins:List (Addr×Obj)}{σ:St}{H:Hp}{s:Shared}{a:Addr}{y:V}{u:Value}{A:Around}{E:Value->Shared->Prop}
end
section
variable {X:Cx}
end
section
variable {κ:Type}[DecidableEq κ]
end
def jQ(cells:List (Str×Addr)):List (Str×NameKind)->List (Str×Addr)->List (Str×Addr)
 | [],acc=>acc
 | (n,k)::r,acc=>if k == .free then jQ cells r ((n,(cells.lookup n).getD 0)::acc) else jQ cells r acc
def kO(scope:Scope)(env:Env):List (Str×Addr):=jQ env.cells scope.names []
theorem Gb{scope:Scope}{env:Env}(hf:∀y∈scope.names,y.2=.free->∃c,env.cells.lookup y.1=some c):closureFor scope env=pure (kO scope env):=by
 simp only[closureFor,kO]
 generalize ([]:List (Str×Addr))=acc
 generalize scope.names=names at hf
 induction names generalizing acc with
 |nil=>rfl
 |cons y r ih =>
  obtain⟨n,k⟩:=y
  have hr:=λa=>ih a λz hz=>hf z (zw _ hz)
  by_cases hk:k=.free
  ·obtain⟨c,hc⟩:=hf (n,k) zr hk;have hc':env.cells.lookup n=some c:=hc;subst hk;simp only[List.forIn_cons,beq_self_eq_true,if_true,cellOf,hc',pure_bind,bind_assoc,jQ,Option.getD_some];exact hr _
  ·have hb:(k == NameKind.free)=false:=by simpa using hk
   simp only[List.forIn_cons,hb,Bool.false_eq_true,if_false,pure_bind,bind_assoc,jQ];exact hr _
theorem xx{cells:List (Str×Addr)}{x:Str}{c:Addr}:∀{names:List (Str×NameKind)}{acc:List (Str×Addr)},(jQ cells names acc).lookup x=some c->acc.lookup x=some c\/(∃k,(x,k)∈names/\k=.free/\(cells.lookup x).getD 0=c)
 | [],acc,h=>.inl h
 | (n,k)::r,acc,h=>by
  unfold jQ at h
  by_cases hk:k=.free
  ·subst hk;simp only[beq_self_eq_true,if_true] at h
   rcases xx h with z | ⟨k,hm,q⟩
   ·rw[List.lookup_cons] at z
    by_cases hx:x=n
    ·subst hx;simp at z;exact .inr ⟨.free,zr,rfl,z⟩
    ·have hb:(x == n)=false:=by simpa using hx
     rw[hb] at z;exact .inl z
   ·exact .inr ⟨k,zw _ hm,q⟩
  ·have hb:(k == NameKind.free)=false:=by simpa using hk
   simp only[hb,Bool.false_eq_true,if_false] at h
   rcases xx h with z | ⟨k,hm,q⟩
   ·exact .inl z
   ·exact .inr ⟨k,zw _ hm,q⟩
theorem tK{cells:List (Str×Addr)}{x:Str}:∀{names:List (Str×NameKind)}{acc:List (Str×Addr)},((∃c,acc.lookup x=some c)\/(x,NameKind.free)∈names)->∃c,(jQ cells names acc).lookup x=some c
 | [],acc,h=>by
  rcases h with h | h
  ·exact h
  ·cases h
 | (n,k)::r,acc,h=>by
  unfold jQ
  by_cases hk:k=.free
  ·subst hk;simp only[beq_self_eq_true,if_true];refine tK ?_
   by_cases hx:x=n
   ·subst hx;exact .inl ⟨(cells.lookup x).getD 0,by simp[List.lookup_cons]⟩
   ·have hb:(x == n)=false:=by simpa using hx
    rcases h with⟨c,h⟩ | h
    ·exact .inl ⟨c,by rw[List.lookup_cons,hb];exact h⟩
    ·rcases zm.mp h with e | h
     ·cases e;exact absurd rfl hx
     ·exact .inr h
  ·have hb:(k == NameKind.free)=false:=by simpa using hk
   simp only[hb,Bool.false_eq_true,if_false];refine tK ?_
   rcases h with h | h
   ·exact .inl h
   ·rcases zm.mp h with e | h
    ·cases e;exact absurd rfl hk
    ·exact .inr h
def jy(scope sc0:Scope):List (Str×NameKind):=
 scope.names.map λ(n,k)=>if(k == .free&&sc0.kind == .function&&sc0.names.lookup n == some .cell) then(n,.cell) else(n,k)
theorem Gd{scope sc0:Scope}(hc:∀y∈scope.names,y.2≠.cell){x:Str}{k:NameKind}(h:(jy scope sc0).lookup x=some k)(hk:k=.cell\/k=.free):(x,NameKind.free)∈scope.names:=by
 have hm:=PySem.mem_of_lookup h;unfold jy at hm;obtain⟨⟨n,k0⟩,h1,h2⟩:=zP.mp hm;dsimp only at h2
 by_cases hb:(k0 == NameKind.free&&sc0.kind == .function&&sc0.names.lookup n == some .cell)=true
 ·rw[if_pos hb] at h2
  have e:k0=.free:=by
   simp only[zn,beq_iff_eq] at hb;exact hb.1.1
  cases h2;rw[<-e];exact h1
 ·rw[if_neg hb] at h2;cases h2
  rcases hk with e | e
  ·exact absurd e (hc _ h1)
  ·rw[<-e];exact h1
def bC(N0 own:List Str)(cap:List Nat):List Str:=own++cap.map λj=>N0.getD j (Str.ofString "")
def compSt(own:List Str)(cap:List Nat)(σ:St):St:=own.map (λ_=>none)++cap.map λj=>(σ[j]?).join
def kW(sc0:Scope)(N0:List Str)(scope:Scope)(own:List Str)(cap:List Nat):Bool :=
 (scope.kind == .function)&&scope.names.all (λy=>y.2 != .cell)&&scope.names.all (λy=>y.2 != .local || scope.names.lookup y.1 == some .local) &&
 scope.names.all (λy=>y.2 != .free || sc0.names.lookup y.1 == some .cell || sc0.names.lookup y.1 == some .free) &&
 cap.all λj=>decide (j<N0.length)&&scope.names.contains (N0.getD j (Str.ofString ""),NameKind.free)&&((jy scope sc0).lookup (N0.getD j (Str.ofString "")) == some .cell || (jy scope sc0).lookup (N0.getD j (Str.ofString "")) == some .free)
structure jR(sc0:Scope)(N0:List Str)(scope:Scope)(own:List Str)(cap:List Nat):Prop where
 kind:scope.kind=.function
 nocell:∀y∈scope.names,y.2≠.cell
 names:∀y∈scope.names,y.2=.local->scope.names.lookup y.1=some .local
 free:∀y∈scope.names,y.2=.free->sc0.names.lookup y.1=some .cell\/sc0.names.lookup y.1=some .free
 cap:∀j∈cap,j<N0.length/\(N0.getD j (Str.ofString ""),NameKind.free)∈scope.names/\((jy scope sc0).lookup (N0.getD j (Str.ofString ""))=some .cell\/(jy scope sc0).lookup (N0.getD j (Str.ofString ""))=some .free)
theorem jR.of{sc0:Scope}{N0:List Str}{scope:Scope}{own:List Str}{cap:List Nat}(h:kW sc0 N0 scope own cap=true):jR sc0 N0 scope own cap:=by
 unfold kW at h;simp only[zn,ji,beq_iff_eq,bne_iff_ne,ne_eq,Bool.or_eq_true,decide_eq_true_eq,List.contains_iff_mem] at h;obtain⟨⟨⟨⟨h1,h2⟩,h3⟩,h4⟩,h5⟩:=h;refine⟨h1,h2,λy hy e=>?_,λy hy e=>?_,λj hj=>?_⟩
 ·rcases h3 y hy with z | z
  ·exact absurd e z
  ·exact z
 ·rcases h4 y hy with(z | z) | z
  ·exact absurd e z
  ·exact .inl z
  ·exact .inr z
 ·obtain⟨⟨a,b⟩,c⟩:=h5 j hj;exact⟨a,b,c⟩
def bV(X:Cx)(scope:Scope)(C:Addr)(N':List Str)(s:Shared)(H:Hp)(ex:List Addr):Cx where
 prog:=X.prog
 w:=X.w
 K:=X.K
 mg:=X.mg
 base:=X.base
 A:=X.A
 N:=N'
 s₀:=s
 H₀:=H
 env:=compEnvC scope (kO scope X.env) C X.env
 outer:=X.stack
 stack:=X.stack
 ex:=ex
 fn:=λ_=>false
 calm:=X.calm
 pn:=[]
 xe:=λ_ _=>False
section
variable {X:Cx}
def kY(X:Cx)(ifs:List Expr)(t:TT):Prop :=
 ∀(pins:List (Addr×Obj)) (s:Shared) (σ:St) (H:Hp) (Q:Bool->Hp->Prop),Inv X pins σ H s->t σ H Q ->
  wpAny (model X.prog X.w) X.A (forIn ifs true λc r=>if r=true then do let ok <-isTrue c X.env (eval c X.env);pure (ForInStep.yield ok) else pure (ForInStep.yield r)) (TP X pins σ Q) X.xe s
def RK:TT:=λ_ H Q=>Q true H
theorem RL:kY X [] RK:=λ_ _ _ H _ I h=>wpAny_tests_nil ⟨H,I,h⟩
theorem RM{c:Expr}{t:TT}(h:PT X c t):kY X [c] t:=λpins s σ H Q I q=>wpAny_tests_one (h pins s σ H Q I q)
end
def Ge(J:It)(g:TG)(tt:TT)(te:TE)(Q:List V->Hp->Prop)(σ0:St)(H1:Hp):Prop :=
 ∃W:Nat->Nat->List V->St->Hp->Prop,(∃m,W 0 m [] σ0 H1)/\∀i m ys σ H,W i m ys σ H ->
  (J.stop i H/\Q ys H)\/(J.go i H/\ys.length<sizeLine/\∃N:List V->St->Hp->Prop,(∀ys σ' H',N ys σ' H'->∃m',m'<m/\W (i+1) m' ys σ' H')/\∀x H',J.yld i H x H'->g x σ H' λσ2 H2=>tt σ2 H2 λb H3 =>
   if b=true then te σ2 H3 λy H4=>N (ys++[y]) σ2 H4 else N ys σ2 H3)
def tL(wi:TI)(own:List Str)(cap:List Nat)(g:TG)(tt:TT)(te:TE):TE:=λσ H Q =>
 wi σ H λJ H1=>Ge J g tt te (λys H'=>ys.length<=sizeLine/\∀p,H' p=none->Q (.ref p) (upd H' p (.lst ys))) (compSt own cap σ) H1
section
variable {prog:Program}{w:World}{A:Around}{R:Result->Shared->Prop}{s:Shared}
theorem RN{elt target iter:Expr}{ifs:List Expr}{scope:Scope}{pos:Pos}{it acc:Value}{env:Env}(I:Nat->Shared->Prop)
  (turn:∀n s,I n s->wpAny (model prog w) A (pyNext it) (λr s₁=>match r with
   |none=>R (.ok .next) s₁
   |some v=>wpAny (model prog w) A (letOwnedTupleGo target it v) (λ_ s₁'=>wpAny (model prog w) A (assign target env v) (λ_ s₂ =>
     wpAny (model prog w) A (forIn ifs true λc r=>if r=true then do let ok <-isTrue c env (eval c env);pure (ForInStep.yield ok) else pure (ForInStep.yield r)) (λok s₃ =>
      if ok=true then wpAny (model prog w) A (eval elt env) (λx s₄ =>
       wpAny (model prog w) A (call (.builtin "list.append") [acc,x]) (λ_ s₅=>∃m,m<n/\I m s₅) (λ_ _=>False) s₄) (λ_ _=>False) s₃
      else ∃m,m<n/\I m s₃) (λ_ _=>False) s₂) (λ_ _=>False) s₁') (λ_ _=>False) s₁) (λ_ _=>False) s)
  (n:Nat) (h:I n s):
  codeAny (model prog w) A (.compLoop (.ListComp elt [⟨target,iter,ifs,0⟩] scope pos) 0 it acc env) R s:=by
 refine codeAny_loop rfl I (λn s hI=>?_) n h;show wpAny _ A ((compTurn (.ListComp elt [⟨target,iter,ifs,0⟩] scope pos) 0 it acc env).onRaise (λx=>do noteFrame x env;theTreesLotGoes x)) _ _ s;refine wpAny_noted ?_;rw[compTurn_list];refine za (wpAny_standAt (za (zR (turn n s hI) (λr s₁ h₁=>?_) λ_ _ h'=>h'.elim)))
 cases r with
 |none=>exact zc h₁
 |some v =>
  refine za (zR h₁ (λ_ s₁' h₁'=>?_) λ_ _ h'=>h'.elim);refine za (zR h₁' (λ_ s₂ h₂=>za (zR h₂ (λok s₃ h₃=>?_) λ_ _ h'=>h'.elim)) λ_ _ h'=>h'.elim)
  cases ok with
  |false=>exact zc ⟨rfl,h₃⟩
  |true =>
   exact za (za (zR h₃ (λx s₄ h₄=>za (zR h₄ (λ_ s₅ h₅=>zc (zc ⟨rfl,h₅⟩)) λ_ _ h'=>h'.elim)) λ_ _ h'=>h'.elim))
end
section
variable {X:Cx}{pins:List (Addr×Obj)}{σ:St}{s2:Shared}{H2:Hp}{elt tg iter:Expr}{ifs:List Expr}{scope:Scope}{pos:Pos}{g:TG}{tt:TT}{te:TE}{sc0:Scope}{N0 own:List Str}{cap:List Nat}
 {it:Addr}{fp:List Addr}{tn:Nat->Heap->Prop}{J:It}
theorem xA(I2:Inv X pins σ H2 s2)(hsc:X.env.scope=sc0)(ok:jR sc0 N0 scope own cap):∀y∈scope.names,y.2=.free->∃c,X.env.cells.lookup y.1=some c:=λy hy e=>by
 refine I2.ok.has y.1 ?_;have q:=ok.free y hy e;rw[<-hsc] at q;exact q
theorem kZ(I2:Inv X pins σ H2 s2)(hsc:X.env.scope=sc0)(ok:jR sc0 N0 scope own cap){x:Str}{c:Addr}(h:(kO scope X.env).lookup x=some c):X.env.cells.lookup x=some c:=by
 rcases xx h with z | ⟨k,hm,hk,q⟩
 ·simp at z
 ·obtain⟨c',e⟩:=xA I2 hsc ok (x,k) hm hk;have e':X.env.cells.lookup x=some c':=e;rw[e'] at q;rw[e',<-q];rfl
theorem RQ(I2:Inv X pins σ H2 s2)(hsc:X.env.scope=sc0)(ok:jR sc0 N0 scope own cap)(T:Turn X.prog X.w X.K tg J fp it tn)(st2:tn 0 s2.heap)(f2:∀b∈fp,fZ X pins H2 b)
  (C:Addr) (hC:s2.heap.objs.size<=C):(bV X scope C (bC N0 own cap) s2 H2 fp).Ok:=by
 have lt:∀b∈fp,b<s2.heap.objs.size:=λb hb=>by
  obtain⟨o,e,_⟩:=T.obj 0 _ st2 b hb;exact zf e
 have rel:(relabel scope X.env).names=jy scope sc0:=by rw[<-hsc];rfl
 refine⟨I2.ok.mod,ok.kind,I2.ok.glob,I2.ok.blt,hC,λx y c h1 h2=>?_,λx hx=>?_,λx c hf _=>absurd hf (by simp[bV]),I2.ok.hd,I2.ok.frames,.inl rfl,λb hb=>⟨?_,λx c h=>?_⟩,I2.bs,zG I2.ok.bsz I2.sz,
  λb o e hb=>?_,λb hb hz=>?_,I2.stack,I2.stkFree⟩
 ·exact I2.ok.inj x y c (kZ I2 hsc ok h1) (kZ I2 hsc ok h2)
 ·have hx':(jy scope sc0).lookup x=some .cell\/(jy scope sc0).lookup x=some .free:=by rw[<-rel];exact hx
  have hm:(x,NameKind.free)∈scope.names:=by
   rcases hx' with q | q
   ·exact Gd ok.nocell q (.inl rfl)
   ·exact Gd ok.nocell q (.inr rfl)
  exact tK (.inr hm)
 ·exact zB (zA (lt b hb) hC)
 ·exact(f2 b hb).2.2.2.2.1 x c (kZ I2 hsc ok h)
 ·rcases(f2 b hb).2.2.2.1 with z | z
  ·exact I2.ok.noex b o e z
  ·exact absurd (zA (zf e) (zG I2.ok.bsz z)) (zL _)
 ·rcases zm.mp (I2.stkSub b hz) with z | z
  ·exact(f2 b hb).2.1 z
  ·exact(f2 b hb).2.2.1 z
theorem RT(I2:Inv X pins σ H2 s2)(hsc:X.env.scope=sc0)(hN0:X.N=N0)(ok:jR sc0 N0 scope own cap)(T:Turn X.prog X.w X.K tg J fp it tn)(st2:tn 0 s2.heap)(f2:∀b∈fp,fZ X pins H2 b)
  (C:Addr) (hC:s2.heap.objs.size<=C) {h₁:Heap}{tk:Nat}{m:Str->Option Value} (old:∀b o,s2.heap.get? b=some o->h₁.get? b=some o) (hns:h₁.Ns C m):
  Inv (bV X scope C (bC N0 own cap) s2 H2 fp) [] (compSt own cap σ) H2 {s2 with heap:=h₁,toks:=tk}:=by
 have rel:(relabel scope X.env).names=jy scope sc0:=by rw[<-hsc];rfl
 refine⟨RQ I2 hsc ok T st2 f2 C hC,rfl,I2.bare,Un.kept old,⟨m,hns,λi x v e1 e2 _=>?_⟩,λx c h=>?_,I2.hok.fresh hC,λx c h=>?_,λp hp=>absurd (show p∈([]:List (Addr×Obj)) from hp) (by simp),I2.hok.kept old,?_⟩
 ·have e1':(bC N0 own cap)[i]?=some x:=e1;unfold bC at e1';unfold compSt at e2
  by_cases hi:i<own.length
  ·rw[zv (by simpa using hi),zl] at e2
   cases q:own[i]? with
   |none=>rw[q] at e2;cases e2
   |some z=>rw[q] at e2;cases e2
  ·rw[zI (by simpa using hi),zl] at e2;rw[zI (by simpa using hi),zl] at e1';rw[zd] at e2
   cases q:cap[i - own.length]? with
   |none=>rw[q] at e2;cases e2
   |some j =>
    rw[q] at e1' e2;have ex:N0.getD j (Str.ofString "")=x:=zx e1';have ev:(σ[j]?).join=some v:=zx e2;obtain⟨hj,hm,hk⟩:=ok.cap j (zy q);rw[ex] at hm hk
    have eN:X.N[j]?=some x:=by
     rw[hN0,zg hj];rw[zQ,zg hj] at ex;exact congrArg some ex
    have eσ:σ[j]?=some (some v):=by
     cases z:σ[j]? with
     |none=>rw[z] at ev;cases ev
     |some o=>rw[z] at ev;cases o with
      |none=>cases ev
      |some y=>exact congrArg some ev
    have kf:X.env.kindOf x=some .cell\/X.env.kindOf x=some .free:=by
     have z:=ok.free _ hm rfl;rw[<-hsc] at z;exact z
    obtain⟨m0,hn0,hl⟩:=I2.loc;obtain⟨u,r,l⟩:=hl j x v eN eσ (kf.elim (λz=>.inr (.inl z)) λz=>.inr (.inr z));refine⟨u,r,.inr ⟨?_,?_⟩⟩
    ·show(relabel scope X.env).names.lookup x=_\/(relabel scope X.env).names.lookup x=_;rw[rel];exact hk
    ·rcases l with⟨l,_⟩ | ⟨_,c,hc,⟨o,ho,hd⟩⟩
     ·rcases kf with z | z<;>(rw[z] at l;cases l)
     ·obtain⟨c',hc'⟩:=tK (cells:=X.env.cells) (names:=scope.names) (acc:=[]) (.inr hm);have z:=kZ I2 hsc ok hc';rw[hc] at z;cases z;exact⟨c,hc',o,old _ _ ho,hd⟩
 ·obtain⟨v,o,ho,hd⟩:=I2.cell x c (kZ I2 hsc ok h);exact⟨v,o,old _ _ ho,hd⟩
 ·exact I2.freeC x c (kZ I2 hsc ok h)
 ·show(compSt own cap σ).length=(bC N0 own cap).length;unfold compSt bC;simp
theorem Gf{Q:List V->Hp->Prop}{RR:Value->Addr->Result->Shared->Prop}{E:Value->Shared->Prop}(hc:X.calm=true)(I2:Inv X pins σ H2 s2)(hsc:X.env.scope=sc0)(hN0:X.N=N0)(ok:jR sc0 N0 scope own cap)
  (hg:∀C s H ex,PG (bV X scope C (bC N0 own cap) s H ex) tg g) (ht:∀C s H ex,kY (bV X scope C (bC N0 own cap) s H ex) ifs tt) (he:∀C s H ex,PE (bV X scope C (bC N0 own cap) s H ex) elt te)
  (T:Turn X.prog X.w X.K tg J fp it tn) (st2:tn 0 s2.heap) (f2:∀b∈fp,fZ X pins H2 b) (hW:Ge J g tt te Q (compSt own cap σ) H2)
  (hRR:∀D C oC ys H' s',Inv X (pins++[(C,oC)]) σ (upd H' D (.lst ys)) s'->(∀h:Heap,h.get? C=some oC->∃m,h.Ns C m)->fZ X pins (upd H' D (.lst ys)) C->H' D=none->Q ys H'->RR (.ref D) C (.ok .next) s')
  (hQsz:∀ys H',Q ys H'->ys.length<=sizeLine):
  wpAny (model X.prog X.w) X.A (newList []) (λacc s₃=>wpAny (model X.prog X.w) X.A (newFunctionEnv scope X.env.globals (kO scope X.env) [] X.env.qual none .none (some X.env)) (λcenv s₄ =>
   codeAny (model X.prog X.w) X.A (.compStart (.ListComp elt [⟨tg,iter,ifs,0⟩] scope pos) 0 (.ref it) acc {cenv with scope:=relabel scope X.env}) (RR acc cenv.locals) s₄) E s₃) E s2:=by
 refine wpAny_newObj_type (wpAny_newFunctionEnv ok.nocell (by intro y hy;simp at hy) (λh₁ hns₁ hsb₁=>?_) ok.kind);dsimp only at hns₁ hsb₁ ⊢
 generalize hP2:s2.heap.push {cls:=.type "list",dict:=none,data:=.seq ([]:List Value).toArray}=P2 at hns₁ hsb₁ ⊢
 have hC:P2.objs.size=s2.heap.objs.size+1:=by rw[<-hP2,Heap.size_push]
 have hDC:s2.heap.objs.size≠P2.objs.size:=by rw[hC];exact zB (jg _)
 have hCle:s2.heap.objs.size<=P2.objs.size:=by rw[hC];exact Nat.le_succ _
 have below:∀b,b<s2.heap.objs.size->b≠P2.objs.size/\b≠s2.heap.objs.size:=λb hb=>⟨by rw[hC];exact zB (jj hb),zB hb⟩
 have ltf:∀b∈fp,b<s2.heap.objs.size:=λb hb=>by
  obtain⟨o,e,_⟩:=T.obj 0 _ st2 b hb;exact zf e
 have old:∀b o,s2.heap.get? b=some o->h₁.get? b=some o:=λb o e=>hsb₁.extBut b o (below b (zf e)).1 (zu _ (hP2 ▸ zu _ e))
 have hacc:h₁.PlainList s2.heap.objs.size #[]:=⟨_,hsb₁.extBut _ _ hDC (zu _ (hP2 ▸ zH _ rfl))⟩
 have st₁:tn 0 h₁:=T.keep _ _ _ st2 λb _ o e=>old b o e
 have hDno:∀b∈fp,s2.heap.objs.size≠b:=λb hb=>(below b (ltf b hb)).2.symm
 generalize hXe:bV X scope P2.objs.size (bC N0 own cap) s2 H2 fp=X'
 have loop:∀s₃:Shared,s₃ = {s2 with heap:=h₁,toks:=s2.toks+([]:List (Str×Value)).length} ->
   codeAny (model X.prog X.w) X.A (.compLoop (.ListComp elt [⟨tg,iter,ifs,0⟩] scope pos) 0 (.ref it) (.ref s2.heap.objs.size) (compEnvC scope (kO scope X.env) P2.objs.size X.env))
    (RR (.ref s2.heap.objs.size) P2.objs.size) s₃:=by
  rintro s₃ rfl;obtain⟨W,⟨m0,w0⟩,turn⟩:=hW;subst hXe
  have stat:∀{H':Hp}{oD:Obj},(∀b∈fp,H' b=none)->∀b∈fp,fZ (bV X scope P2.objs.size (bC N0 own cap) s2 H2 fp) [(s2.heap.objs.size,oD)] H' b:=λ{H' oD} hn b hb =>
   ⟨hn b hb,(below b (ltf b hb)).1,λz=>by
    rcases zm.mp (I2.stkSub b z) with z | z
    ·exact(f2 b hb).2.1 z
    ·exact(f2 b hb).2.2.1 z,.inl hb,λx c h=>(f2 b hb).2.2.2.2.1 x c (kZ I2 hsc ok h),λp hp=>by
    have e:p=(s2.heap.objs.size,oD):=by simpa [bV] using hp
    rw[e];exact hDno b hb⟩
  have notcell:∀x c,(kO scope X.env).lookup x=some c->c≠s2.heap.objs.size:=λx c h z=>by
   obtain⟨v,o,ho,hd⟩:=I2.cell x c (kZ I2 hsc ok h);exact absurd (zf ho) (by rw[z];exact zL _)
  have nofs:s2.heap.objs.size∉frs X.stack:=λz=>by
   rcases zm.mp (I2.stkSub _ z) with z | z
   ·exact absurd I2.lt (by rw[z];exact zL _)
   ·exact I2.nofs (zb _) z
  have pinD:∀{σ':St}{H':Hp}{s':Shared}{its:Array Value}{k:Nat},Inv (bV X scope P2.objs.size (bC N0 own cap) s2 H2 fp) [] σ' H' s'->H' s2.heap.objs.size=none ->
    s'.heap.get? s2.heap.objs.size=some {cls:=.type "list",data:=.seq its k}->Inv (bV X scope P2.objs.size (bC N0 own cap) s2 H2 fp) [(s2.heap.objs.size,{cls:=.type "list",data:=.seq its k})] σ' H' s' :=
   λ{σ' H' s' its k} I hn hd=>I.pins_of λp hp=>by
    have e:p=(s2.heap.objs.size,{cls:=.type "list",data:=.seq its k}):=by simpa using hp
    subst e;exact⟨hd,hn,hDC,nofs,λv z=>by cases z⟩
  obtain⟨k0,hk0⟩:=hacc;refine RN (env:=compEnvC scope (kO scope X.env) P2.objs.size X.env)
   (λn s'=>∃i ys its k σ' H',Inv (bV X scope P2.objs.size (bC N0 own cap) s2 H2 fp) [(s2.heap.objs.size,{cls:=.type "list",data:=.seq its k})] σ' H' s'/\tn i s'.heap/\(∀b∈fp,H' b=none)/\aR ys its.toList/\W i n ys σ' H') ?_ m0
   ⟨0,[],#[],k0,_,H2,pinD (RT I2 hsc hN0 ok T st2 f2 _ hCle old hns₁) (I2.hok.fresh (zb _)) hk0,st₁,λb hb=>(f2 b hb).1,.nil,w0⟩
  rintro n s3 ⟨i,ys,its,k,σ3,H3,I3,st3,fr3,hv,w3⟩
  rcases turn i n ys σ3 H3 w3 with⟨stop,qn⟩ | ⟨go,hsz,N,hN,step⟩
  ·refine thn (T.done (bV X scope P2.objs.size (bC N0 own cap) s2 H2 fp) rfl rfl rfl hc i _ s3 σ3 H3 _ I3 (stat fr3) st3 stop) λr s4 ⟨hr,I4⟩=>?_
   subst hr;show RR _ _ (.ok .next) s4;obtain⟨hd4,hn4,_⟩:=I4.pin (s2.heap.objs.size,{cls:=.type "list",data:=.seq its k}) (by simp[bV]);dsimp only at hd4 hn4;obtain⟨m4,hns4,_⟩:=id I4.loc;have hns4':s4.heap.Ns P2.objs.size m4:=hns4;obtain⟨oC,es,ep,hoC,rC⟩:=id hns4';have cne:P2.objs.size≠s2.heap.objs.size:=hDC.symm;have freeC:H3 P2.objs.size=none:=I4.free;have hchC:fZ X pins (upd H3 s2.heap.objs.size (.lst ys)) P2.objs.size:=I2.fpOk hCle (by rw[aK cne];exact freeC)
   have hlen:ys.length=its.size:=by have e:=hv.length;simpa using e
   have I5:Inv X pins σ (upd H3 s2.heap.objs.size (.lst ys)) s4:=by
    refine I2.call' (ch:=fp) I4.os ⟨I4.base.keep,I4.base.slot,λb o e n hx=>?_,I4.base.there,λb xs e=>?_,λb o u e=>?_,λb ps e=>?_⟩ (λb u e=>?_) I4.bare λb hb=>?_
    ·rw[aK (zB (zf e))];exact I4.base.free b o e n hx
    ·have q:=I4.base.tups b xs e;rw[aK (bT q hn4)];exact q
    ·have q:=I4.base.frzs b o u e;rw[aK (bT q hn4)];exact q
    ·obtain⟨more,q⟩:=I4.base.tbls b ps e;exact⟨more,by rw[aK (bT q hn4)];exact q⟩
    ·by_cases hb:b=s2.heap.objs.size
     ·subst hb;rw[bJ] at e;cases e;exact⟨hQsz ys H3 qn,its.toList,k,hv,by simpa using hd4⟩
     ·rw[aK hb] at e
      exact(I4.hok b u e).stay (λ_ _ _ q=>q) (λc q=>by rw[aK (bT q hn4)];exact q) λc xs q=>by rw[aK (bT q hn4)];exact q
    ·obtain⟨_,a2,_,a4,a5,a6⟩:=f2 b hb;exact⟨a4,a2,a5,a6⟩
   refine hRR s2.heap.objs.size P2.objs.size oC ys H3 s4 (I5.pins_of λp hp=>?_) (λh e=>⟨m4,oC,es,ep,e,rC⟩) hchC hn4 qn
   rcases zF.mp hp with z | z
   ·exact I5.pin p (zM _ z)
   ·have e:p=(P2.objs.size,oC):=by simpa using z
    subst e
    exact⟨hoC,hchC.1,hchC.2.1,hchC.2.2.1,λv z=>by
     have:=rC.1
     rw[this] at z;cases z⟩
  ·refine thn (T.item (bV X scope P2.objs.size (bC N0 own cap) s2 H2 fp) rfl rfl rfl hc i _ s3 σ3 H3 _ I3 (stat fr3) st3 go) λr s4 ⟨u,hr,h4⟩=>?_
   subst hr
   refine thn h4 λ_ s5 ⟨x,H5,I5,r5,y5,st5,fr5⟩=>?_
   have I5':=I5.pinned (stat fr5) (T.obj _ _ st5)
   refine thn (hg _ _ _ _ _ s5 σ3 H5 x u _ I5' r5 (step x H5 y5)) λ_ s6 ⟨σ6,H6,I6,q6⟩=>?_
   refine thn (ht _ _ _ _ _ s6 σ6 H6 _ I6 q6) λb s7 ⟨H7,I7,q7⟩=>?_
   have keepT:∀{σ':St}{H':Hp}{s':Shared},Inv (bV X scope P2.objs.size (bC N0 own cap) s2 H2 fp) ([(s2.heap.objs.size,{cls:=.type "list",data:=.seq its k})]++pN fp s5.heap) σ' H' s'->tn (i+1) s'.heap/\∀b∈fp,H' b=none:=λ{σ' H' s'} I'=>by
    refine⟨T.keep _ _ _ st5 λb hb o e=>(I'.pin (b,o) (zM _ (zM _ (sV hb e)))).1,λb hb=>?_⟩;obtain⟨o,e,d⟩:=T.obj _ _ st5 b hb;exact(I'.pin (b,o) (zM _ (zM _ (sV hb e)))).2.1
   cases b with
   |false =>
    rw[if_neg zk] at q7 ⊢;obtain⟨m',hm,w7⟩:=hN _ _ _ q7;obtain⟨a,b⟩:=keepT I7;exact⟨m',hm,i+1,ys,its,k,σ6,H7,I7.unpinned,a,b,hv,w7⟩
   |true =>
    rw[if_pos rfl] at q7 ⊢
    refine thn (he _ _ _ _ _ s7 σ6 H7 _ I7 q7) λv s8 ⟨y,H8,I8,r8,q8⟩=>?_
    obtain⟨m',hm,w8⟩:=hN _ _ _ q8;obtain⟨a,b⟩:=keepT I8;obtain⟨hd8,hn8,_⟩:=I8.pin (s2.heap.objs.size,{cls:=.type "list",data:=.seq its k}) (by simp[bV]);dsimp only at hd8 hn8
    have hl:its.size<=sizeLine:=by
     have e:=hv.length;simp at e;omega
    refine wpAny_list_append_plain (hsz:=hl) ⟨k,hd8⟩ λh9 hl9 hs9=>?_
    obtain⟨k9,hd9⟩:=hl9
    have I8':Inv (bV X scope P2.objs.size (bC N0 own cap) s2 H2 fp) [] σ6 H8 s8:=I8.pins_of λp hp=>absurd hp (by simp)
    have I9:Inv (bV X scope P2.objs.size (bC N0 own cap) s2 H2 fp) [] σ6 H8 {s8 with heap:=h9}:=
     I8'.turned (t':=s8.toks) (it:=s2.heap.objs.size) (λb o hb e=>hs9.extBut b o hb e) hn8 hDC (.inr (zb _)) notcell (λp hp=>absurd (show p∈([]:List (Addr×Obj)) from hp) (by simp))
    refine⟨m',hm,i+1,ys++[y],its.push v,k9,σ6,H8,pinD I9 hn8 hd9,T.keep _ _ _ a λb hb o e=>hs9.extBut b o (hDno b hb).symm e,b,?_,w8⟩;rw[Array.toList_push];exact hv.append (.cons r8 .nil)
 exact codeAny_compStart_list (loop _ rfl) (T.self _ 0 _ _ _ st₁ (loop _ rfl))
theorem RV{wi:TI}(sc0:Scope)(N0 own:List Str)(cap:List Nat)(hc:X.calm=true)(hi:PI X tg iter wi)
  (hg:∀C s H ex,PG (bV X scope C (bC N0 own cap) s H ex) tg g) (ht:∀C s H ex,kY (bV X scope C (bC N0 own cap) s H ex) ifs tt) (he:∀C s H ex,PE (bV X scope C (bC N0 own cap) s H ex) elt te)
  (hsc:X.env.scope=sc0:=by rfl) (hN0:X.N=N0:=by rfl) (ok:kW sc0 N0 scope own cap=true:=by decide +kernel) (hs:∀x,foldedSetIterable iter X.env x=pure x:=by intro _;rfl):
  PE X (.ListComp elt [⟨tg,iter,ifs,0⟩] scope pos) (tL wi own cap g tt te):=by
 intro pins s σ H Q I h;have ok:=jR.of ok;rw[eval_ListComp];refine wpAny_comprehension_free (use:=none) rfl hs (Gb (xA I hsc ok)) ok.kind ok.names (thn (hi pins s σ H _ I h) λxv s1 h1=>thn h1 λitv s2 h2=>?_);obtain⟨it,fp,tn,J,H2,e,I2,T,st2,f2,hW⟩:=h2;subst e
 refine Gf (RR:=λacc C=>compPost (model X.prog X.w) X.A X.xe none (EP X pins σ Q) acc C) hc I2 hsc hN0 ok hg ht he T st2 f2 hW (λD C oC ys H' s' I' hns fpC hD q=>?_) λys H' q=>q.1
 obtain⟨hC,hCn,_⟩:=I'.pin (C,oC) (by simp);obtain⟨m,hm⟩:=hns _ hC;refine⟨m,hm,λh' hs'=>⟨.ref D,upd H' D (.lst ys),?_,rfl,q.2 D hD⟩⟩;obtain⟨f0,f1,f2',f3,f4,f5⟩:=fpC;exact I'.unpinned.turned (t':=s'.toks) (it:=C) (λb o hb e=>hs'.extBut b o hb e) f0 f1 f3 f4 f5
theorem xB{wi:TI}{i:Nat}{x:Str}{pos' spos:Pos}(sc0:Scope)(N0 own:List Str)(cap:List Nat)(hN:X.N.Nodup)(hx:X.N[i]?=some x)(hl:Loc X.env.scope x)(hc:X.calm=true)(hi:PI X tg iter wi)
  (hg:∀C s H ex,PG (bV X scope C (bC N0 own cap) s H ex) tg g) (ht:∀C s H ex,kY (bV X scope C (bC N0 own cap) s H ex) ifs tt) (he:∀C s H ex,PE (bV X scope C (bC N0 own cap) s H ex) elt te)
  (hsw:swapsWith (.ListComp elt [⟨tg,iter,ifs,0⟩] scope pos) (some (.Name x pos')) spos.line X.env=pure true:=by rfl)
  (hf:X.fn x=true\/X.env.scope.names.lookup x=some .local:=by first | exact .inl rfl | exact .inr rfl | assumption)
  (hsc:X.env.scope=sc0:=by rfl) (hN0:X.N=N0:=by rfl) (ok:kW sc0 N0 scope own cap=true:=by decide +kernel) (hs:∀x,foldedSetIterable iter X.env x=pure x:=by intro _;rfl):
  PS X (.Assign [.Name x pos'] (.ListComp elt [⟨tg,iter,ifs,0⟩] scope pos) spos) (pM (tL wi own cap g tt te) (pL i)):=by
 intro pins s σ H D I h;have ok:=jR.of ok;rw[exec_Assign_Name_used _ _ _ _ hsw];refine za (wpAny_standAt (za ?_));show wpAny _ X.A (do let _ <-comprehension (.ListComp elt [⟨tg,iter,ifs,0⟩] scope pos) scope X.env _ (newList []) false (eval iter X.env) (some (assign (.Name x pos') X.env))) _ _ s
 refine za (zR (wpAny_comprehension_free (use:=some (assign (.Name x pos') X.env)) (Q:=λ_ s'=>SP X pins D .next s') rfl hs (Gb (xA I hsc ok)) ok.kind ok.names
  (thn (hi pins s σ H _ I h) λxv s1 h1=>thn h1 λitv s2 h2=>?_)) (λ_ s' hq=>zc (zc hq)) λ_ _ e=>e)
 obtain⟨it,fp,tn,J,H2,e,I2,T,st2,f2,hW⟩:=h2;subst e
 refine Gf (RR:=λacc C=>compPost (model X.prog X.w) X.A X.xe (some (assign (.Name x pos') X.env)) (λ_ s'=>SP X pins D .next s') acc C) hc I2 hsc hN0 ok hg ht he T st2 f2 hW (λDa C oC ys H' s' I' hns fpC hD q=>?_) λys H' q=>q.1
 show wpAny _ X.A (assign (.Name x pos') X.env (.ref Da)) _ _ _;refine wpAny_assign_Name (wD (v:=.ref Da) I' hN hx hl rfl (λs'' I''=>?_) hf);obtain⟨hC,hCn,_⟩:=I''.pin (C,oC) (by simp);obtain⟨m,hm⟩:=hns _ hC;refine⟨m,hm,λh' hs'=>⟨σ.set i (some (.ref Da)),upd H' Da (.lst ys),?_,q.2 Da hD⟩⟩;obtain⟨f0,f1,f2',f3,f4,f5⟩:=fpC;exact I''.unpinned.turned (t':=s''.toks) (it:=C) (λb o hb e=>hs'.extBut b o hb e) f0 f1 f3 f4 f5
end
def Can(P:Program)(w:World)(K:PySem.W.Frag)(mg:Str->Option Value)(base:Heap)(x:Str)(ps:List Str)(k:Nat)(sp:Sp):Prop :=
 ∃f fd,mg x=some (.ref f)/\PySem.W.keepIn K (.ref f)=true/\Binds K fd ps []/\dJ P w K mg base CX0 k f fd ps sp/\∃oc od osl,K.lookup f=some ⟨oc,od,.func fd,osl⟩
def Def(K:PySem.W.Frag)(mg:Str->Option Value)(x:Str)(st:Stmt):Prop:=∃f fd,mg x=some (.ref f)/\Fun K x x st f fd
section
variable {P:Program}{w:World}{K:PySem.W.Frag}{mg:Str->Option Value}{base:Heap}
theorem Def.can{x:Str}{st:Stmt}{N ps:List Str}{k:Nat}{sp:Sp}(D:Def K mg x st)(S:bN N ps (aY st))
  (hb:∀(kV doc pm:Value) (an:Option Addr) (cdv ct:Value) (us:List Value),us.length=ps.length->bindArgs (PySem.W.fnOf x x (g8 st) (eU st) (aY st) .none kV doc pm an cdv ct) ⟨us,[]⟩=pure (ps.zip us))
  (len:∀vs H Q E,sp vs H Q E->vs.length=ps.length)
  (hbody:∀(f:Addr) (cdv:Value) (A:Around) (outer:List Env) (s:Shared) (H:Hp) (vs:List V) (Q:VK) (E:XK),bG k (A.deeper (envOfC x (aY st) s.heap.objs.size f cdv))->sp vs H Q E ->
   ∃t,PSs (iD CX0 P w K mg base N x (aY st) f cdv A outer s H E).nox (eU st) t/\t {nx:=λ_ H'=>Q .non H',rt:=Q} (start N vs) H):Can P w K mg base x ps (k+1) sp:=by
 obtain⟨f,fd,hm,F⟩:=D;obtain⟨oc,od,_,_,_,_,_,_,osl,_,lk,_⟩:=F.ex;exact⟨f,fd,hm,F.kp,F.binds hb,F.ok S len λcdv A outer s H vs Q E hr h=>hbody f cdv A outer s H vs Q E hr h,oc,od,osl,lk⟩
end
section
variable {X:Cx}{k:Nat}{x:Str}{ps:List Str}{sp:Sp}{p pos:Pos}{e:Expr}{es:List Expr}{t:TA}
theorem RW(C:Can X.prog X.w X.K X.mg X.base x ps k sp)(hr:bG k X.A)(ha:PA X (e::es) t)(hg:Gl X x:=by rfl)(hdb:(x == ("__debug__":Str))=false:=by decide)
  (he:starEach (e::es) X.env=(false,eval e X.env)::starEach es X.env:=by rfl) (hpl:(backTo pos (starEach es X.env)).any (·.1)=false:=by rfl):
  PE X (.Call (.Name x p) (e::es) [] pos) (wR sp [] E0 t):=by
 obtain⟨f,fd,hm,hk,hb,F,_⟩:=C;exact Qx F hr hg hm hk hb .nil tE ha hdb he hpl
end
theorem Same.seqT{K:PySem.W.Frag}{H H':Hp}{a:Addr}{xs:List V}(e:Same H H')(h:SqT K H a xs):SqT K H' a xs:=by
 rcases h with(h | ⟨o,h⟩) | h
 ·exact .inl (.inl (e _ _ h))
 ·exact .inl (.inr ⟨o,e _ _ h⟩)
 ·exact .inr h
mutual
def Rep(K:PySem.W.Frag)(H:Hp):V->PyData->Prop
 |v,.none=>v=.non
 |v,.bool b=>v=.bl b
 |v,.int i=>v=.int i
 |v,.str x=>v=.str x
 |v,.list ds=>∃a xs,v=.ref a/\SqL K H a xs/\cH K H xs ds
 |v,.tuple ds=>∃a xs,v=.ref a/\SqT K H a xs/\cH K H xs ds
 | _,.dict _=>False
def cH(K:PySem.W.Frag)(H:Hp):List V->List PyData->Prop
 |xs,[]=>xs=[]
 |xs,d::ds=>∃x r,xs=x::r/\Rep K H x d/\cH K H r ds
end
mutual
theorem Rep.mono{K:PySem.W.Frag}{H H':Hp}(e:Same H H'):∀(d:PyData) {v:V},Rep K H v d->Rep K H' v d
 | .none,v,h=>by rw[Rep] at h ⊢;exact h
 | .bool b,v,h=>by rw[Rep] at h ⊢;exact h
 | .int i,v,h=>by rw[Rep] at h ⊢;exact h
 | .str x,v,h=>by rw[Rep] at h ⊢;exact h
 | .list ds,v,h=>by
  rw[Rep] at h ⊢;obtain⟨a,xs,h1,h2,h3⟩:=h;exact⟨a,xs,h1,e.seq h2,cH.mono e ds h3⟩
 | .tuple ds,v,h=>by
  rw[Rep] at h ⊢;obtain⟨a,xs,h1,h2,h3⟩:=h;exact⟨a,xs,h1,e.seqT h2,cH.mono e ds h3⟩
 | .dict _,v,h=>by rw[Rep] at h;exact h.elim
theorem cH.mono{K:PySem.W.Frag}{H H':Hp}(e:Same H H'):∀(ds:List PyData) {xs:List V},cH K H xs ds->cH K H' xs ds
 | [],xs,h=>by rw[cH] at h ⊢;exact h
 |d::ds,xs,h=>by
  rw[cH] at h ⊢;obtain⟨x,r,h1,h2,h3⟩:=h;exact⟨x,r,h1,Rep.mono e d h2,cH.mono e ds h3⟩
end
theorem cH.nil{K:PySem.W.Frag}{H:Hp}:cH K H [] []:=by rw[cH]
theorem cH.cons{K:PySem.W.Frag}{H:Hp}{x:V}{xs:List V}{d:PyData}{ds:List PyData}(h:Rep K H x d)(hs:cH K H xs ds):cH K H (x::xs) (d::ds):=by
 rw[cH];exact⟨x,xs,rfl,h,hs⟩
section
variable {X:Cx}{pins:List (Addr×Obj)}{σ:St}{H:Hp}{s:Shared}
mutual
theorem Rep.reads(I:Inv X pins σ H s):∀(d:PyData) {v:V}{u:Value},Rep X.K H v d->RelV v u->∃as,Reads s.heap u d as
 | .none,v,u,h,r=>by rw[Rep] at h;subst h;cases(show u=.none from r);exact⟨_,.none⟩
 | .bool b,v,u,h,r=>by rw[Rep] at h;subst h;cases(show u=.bool b from r);exact⟨_,.bool b⟩
 | .int i,v,u,h,r=>by rw[Rep] at h;subst h;obtain⟨t,rfl⟩:=(show ∃t,u=.int i t from r);exact⟨_,.int i t⟩
 | .str x,v,u,h,r=>by rw[Rep] at h;subst h;obtain⟨t,rfl⟩:=(show ∃t,u=.str x t from r);exact⟨_,.str x t⟩
 | .list ds,v,u,h,r=>by
  rw[Rep] at h;obtain⟨a,xs,rfl,h2,h3⟩:=h;cases(show u=.ref a from r);obtain⟨its,rv,pl,_⟩:=I.list h2;obtain⟨as,q⟩:=cH.reads I ds h3 rv;obtain⟨o,ho,hc,n,hd⟩:=pl.isList;exact⟨_,.list ho hc hd (by simpa using q)⟩
 | .tuple ds,v,u,h,r=>by
  rw[Rep] at h;obtain⟨a,xs,rfl,h2,h3⟩:=h;cases(show u=.ref a from r);obtain⟨its,rv,pl,_⟩:=I.tuple h2;obtain⟨as,q⟩:=cH.reads I ds h3 rv;obtain⟨o,ho,hc,n,hd⟩:=pl;exact⟨_,.tuple ho hc hd (by simpa using q)⟩
 | .dict _,v,u,h,r=>by rw[Rep] at h;exact h.elim
theorem cH.reads(I:Inv X pins σ H s):∀(ds:List PyData) {xs:List V}{us:List Value},cH X.K H xs ds->aR xs us->∃as,ReadsAll s.heap us ds as
 | [],xs,us,h,r=>by rw[cH] at h;subst h;cases r;exact⟨_,.nil⟩
 |d::ds,xs,us,h,r=>by
  rw[cH] at h;obtain⟨x,rest,rfl,h2,h3⟩:=h
  cases r with
  |cons r1 r2 =>
   obtain⟨as,q⟩:=Rep.reads I d h2 r1;obtain⟨bs,q'⟩:=cH.reads I ds h3 r2;exact⟨_,.cons q q'⟩
end
end
def okD(d:PyData):Bool:=d.canLay0&&decide (d.depth<=60)
def xC(K:PySem.W.Frag)(neg:Bool):R2:=λx y H Q=>∃d e,Rep K H x d/\Rep K H y e/\okD d=true/\okD e=true/\Q (.bl (if neg then !PyData.eqv d e else PyData.eqv d e)) H
section
variable {X:Cx}
theorem Gg{k:Nat}(hr:bG k X.A):OpR X (compareOp .Eq) (xC X.K false):=by
 intro pins s σ H x y v u Q I rx ry h;obtain⟨d,e,h1,h2,k1,k2,q⟩:=h;obtain⟨as,r1⟩:=Rep.reads I d h1 rx;obtain⟨bs,r2⟩:=Rep.reads I e h2 ry;unfold okD at k1 k2;simp only[zn,decide_eq_true_eq] at k1 k2;exact SeqAt.compareEq_reads r1 r2 k1.1 k2.1 (by have:=hr.units;omega) ⟨.bl _,H,I,rfl,q⟩
theorem Gh{k:Nat}(hr:bG k X.A):OpR X (compareOp .NotEq) (xC X.K true):=by
 intro pins s σ H x y v u Q I rx ry h;obtain⟨d,e,h1,h2,k1,k2,q⟩:=h;obtain⟨as,r1⟩:=Rep.reads I d h1 rx;obtain⟨bs,r2⟩:=Rep.reads I e h2 ry;unfold okD at k1 k2;simp only[zn,decide_eq_true_eq] at k1 k2;exact SeqAt.compareNe_reads r1 r2 k1.1 k2.1 (by have:=hr.units;omega) ⟨.bl _,H,I,rfl,q⟩
end
def S(l:List Nat):Str:=⟨l.toArray⟩
theorem nF(l:List Nat):(S l).cps.toList=l:=by simp[S]
theorem gw(l:List Nat):(S l).length=l.length:=by simp[S,Str.length]
theorem RX(a b:List Nat):S a++S b=S (a++b):=by
 show Str.mk _=Str.mk _;simp[S]
theorem tO{a b:List Nat}(h:S a=S b):a=b:=by have:=congrArg (λx:Str=>x.cps.toList) h;simpa [nF] using this
section
variable {X:Cx}
theorem RZ:OpR X (compareOp .LtE) (λx y H Q=>∃i j,x=.str i/\y=.str j/\Q (.bl (!decide (j.cps.toList<i.cps.toList))) H):=by
 intro pins s σ H x y v u Q I rx ry h;obtain⟨i,j,rfl,rfl,q⟩:=h;obtain⟨t,rfl⟩:=rx;obtain⟨t',rfl⟩:=ry;exact P.le_str ⟨.bl _,H,I,rfl,q⟩
theorem R0:OpR X (compareOp .In) (λx y H Q=>∃c l,x=.str (S [c])/\y=.str (S l)/\Q (.bl (decide (c∈l))) H):=by
 intro pins s σ H x y v u Q I rx ry h;obtain⟨c,l,rfl,rfl,q⟩:=h;refine PJ pins s σ H _ _ v u Q I rx ry ⟨S [c],S l,rfl,rfl,?_⟩;have e:=PySem.StrLaws.found_one (S l) c;rw[nF] at e;show Q (.bl (!(Builtin.Str.occurrences (S l) (S [c]) 0 (S l).length 1).isEmpty)) H;rw[show S [c]=⟨#[c]⟩ from rfl,e];exact q
def Its(l:List Nat):It:=⟨λi _=>i<l.length,λi H x H'=>H'=H/\∃c,l[i]?=some c/\x=.str (S [c]),λi _=>l.length<=i⟩
theorem R1{P:Program}{w:World}{K:PySem.W.Frag}{tg:Expr}(l:List Nat)(it:Addr)(t:Tok):Turn P w K tg (Its l) [it] it (λi h=>h.IsStrIter it "str_ascii_iterator" (S l) t i) where
 mem:=by simp
 obj:=λi h st b hb=>by
  have e:b=it:=by simpa using hb
  subst e;obtain⟨o,e,c,d⟩:=st;exact⟨o,e,λv z=>by rw[d] at z;cases z⟩
 keep:=λi h h' st k=>let ⟨o,ho,r⟩:=st;⟨o,k it (by simp) o ho,r⟩
 item:=by
  intro X hP hw hK hc i pins s σ H E I hf st hg;subst hP hw hK;obtain⟨f0,f1,f2,f3,f4,f5⟩:=hf it (by simp);have hg':i<l.length:=hg
  refine wpAny_pyNext_ascii_item st (c:=l[i]) (by simp[S,hg']) λh' st' sb=>?_
  have I1:Inv X pins σ H {s with heap:=h',toks:=s.toks+1}:=I.turned (λb o hb e=>(sb.2 b hb).trans e) f0 f1 f3 f4 f5;obtain⟨o,e,c,d⟩:=id st';exact⟨_,rfl,nA (s:={s with heap:=h',toks:=s.toks+1}) e c d (by decide) ⟨.str (S [l[i]]),H,I1,⟨_,rfl⟩,⟨rfl,l[i],by simp[hg'],rfl⟩,st',λb hb=>(hf b hb).1⟩⟩
 done:=by
  intro X hP hw hK hc i pins s σ H E I hf st hg;subst hP hw hK;obtain⟨f0,f1,f2,f3,f4,f5⟩:=hf it (by simp);have hg':l.length<=i:=hg
  exact wpAny_pyNext_ascii_end (I.ok.hd hc) st (by simp[S,hg']) λh' eb=>⟨rfl,I.turned (t':=s.toks) (λb o hb e=>eb b o hb e) f0 f1 f3 f4 f5⟩
 self:=λ_ _ _ _ _ st h=>wpAny_pyIter_striter_ascii st h
def ascii(l:List Nat):Bool:=l.all (· < 128)
def R3(tl:TE):TI:=λσ H R=>tl σ H λx H1=>∃l,x=.str (S l)/\ascii l=true/\R (Its l) H1
theorem R4{tg e:Expr}{tl:TE}(hl:PE X e tl):PI X tg e (R3 tl):=by
 intro pins s σ H R I h
 refine thn (hl pins s σ H _ I h) λv s1 ⟨x,H1,I1,r1,q1⟩=>?_
 obtain⟨l,e,ha,q⟩:=q1;subst e;obtain⟨t,rfl⟩:=r1;refine wpAny_pyIter_ascii (by simpa [S,ascii] using ha) ?_;refine⟨s1.heap.objs.size,[s1.heap.objs.size],_,_,H1,rfl,I1.kept (t':=s1.toks) λb o e=>zu _ e,R1 l _ t,⟨_,zH _ rfl,rfl,rfl⟩,λb hb=>?_,q⟩
 have e:b=s1.heap.objs.size:=by simpa using hb
 subst e;exact I1.fpOk (zb _) (I1.hok.fresh (zb _))
theorem R5(hc:X.calm=true):iC X (.builtin "all") (λxs H Q=>∃(a:Addr) (bs:List Bool),xs=[.ref a]/\SqL X.K H a (bs.map V.bl)/\Q (.bl (bs.all id)) H):=by
 intro pins s σ H xs us Q I r h;obtain⟨a,bs,rfl,ha,q⟩:=h;obtain⟨u,rfl,ru⟩:=vals1 r;cases ru;obtain⟨its,rv,p,hz⟩:=I.list ha;refine call_all_walk (wpAny_pyIter_list p.isList ?_);have hne:a≠s.heap.objs.size:=zB (zf p.isList.choose_spec.1)
 refine⟨s.heap.objs.size,_,_,its.toArray.size,_,_,λi=>bs.getD i true,rfl,Walks.list (A:=X.A.in1) (I.ok.hd hc) s.heap.objs.size a hne its.toArray,
  ⟨⟨_,zH _ rfl,rfl,rfl⟩,p.isList.at λo e=>zu _ e⟩,λi v s' Q' E' hv hq=>?_,λh' tk hk=>?_⟩
 ·have hb:(bs.map V.bl)[i]?=some (V.bl (bs.getD i true)):=by
   have hi:i<its.length:=by
    have z:=Array.getElem?_eq_some_iff.mp hv;simpa using z.1
   have hl:=rv.length;rw[zd] at hl;rw[zl,zg (by omega),zQ,zg (by omega)];rfl
  obtain⟨u,hu,ru⟩:=rv.get hb
  have hv':its[i]?=some v:=by simpa using hv
  rw[hv'] at hu;cases hu;cases(show v=.bool _ from ru);exact wpAny_truthy_bool hq
 ·refine⟨.bl (bs.all id),H,I.kept λb o e=>hk b o (λz=>?_) (zu _ e),?_,q⟩
  ·have z':b=s.heap.objs.size:=by simpa using z
   exact absurd (zf e) (by rw[z'];exact zL _)
  ·have hl:its.length=bs.length:=by have:=rv.length;rw[zd] at this;exact this.symm
   have e:(List.range its.toArray.size).all (λi=>bs.getD i true)=bs.all id:=by
    rw[zq,hl];rw[Bool.eq_iff_iff,ji,ji];constructor
    ·intro h x hx;obtain⟨i,hi,rfl⟩:=List.mem_iff_getElem.mp hx
     have:=h i (List.mem_range.mpr hi)
     rw[zQ,zg hi] at this;exact this
    ·intro h i hi;have hi':=List.mem_range.mp hi;rw[zQ,zg hi'];exact h _ (zW hi')
   show Value.bool _=Value.bool _;rw[e]
theorem R6(hc:X.calm=true):iC X (.builtin "sum") (λxs H Q=>∃(a:Addr) (ns:List Int),xs=[.ref a]/\SqL X.K H a (ns.map V.int)/\(∀n∈ns,0<=n/\n<=1000000)/\ns.length<=1000000/\Q (.int ns.sum) H):=by
 intro pins s σ H xs us Q I r h;obtain⟨a,ns,rfl,ha,hb,hl0,q⟩:=h;obtain⟨u,rfl,ru⟩:=vals1 r;cases ru;obtain⟨its,rv,p,hz⟩:=I.list ha;have hne:a≠s.heap.objs.size:=zB (zf p.isList.choose_spec.1)
 have hl:its.length=ns.length:=by have:=rv.length;rw[zd] at this;exact this.symm
 have pre:∀j,j<=ns.length->preSum (λi=>ns.getD i 0) j=(ns.take j).sum/\0<=preSum (λi=>ns.getD i 0) j/\preSum (λi=>ns.getD i 0) j<=(j:Int) * 1000000:=by
  intro j
  induction j with
  |zero=>intro _;simp[preSum]
  |succ j ih =>
   intro hj;obtain⟨e,l1,l2⟩:=ih (by omega)
   have hj':j<ns.length:=by omega
   have hm:=hb ns[j] (zW hj')
   have ed:ns.getD j 0=ns[j]:=by rw[zQ,zg hj'];rfl
   have es:preSum (λi=>ns.getD i 0) (j+1)=preSum (λi=>ns.getD i 0) j+ns[j]:=by
    rw[<-ed];rfl
   refine⟨?_,by omega,by omega⟩;rw[es,e,List.take_succ_eq_append_getElem hj',List.sum_append];simp
 refine call_sum_walk (wpAny_pyIter_list p.isList ?_)
 refine⟨s.heap.objs.size,_,_,its.toArray.size,_,_,λi=>ns.getD i 0,rfl,Walks.list (A:=X.A.in1) (I.ok.hd hc) s.heap.objs.size a hne its.toArray,
  ⟨⟨_,zH _ rfl,rfl,rfl⟩,p.isList.at λo e=>zu _ e⟩,λb hb'=>?_,λi v hv=>?_,λj hj=>?_,λh' tk t' hk=>?_⟩
 ·have hsz:({s with heap:=s.heap.push {cls:=.type "list_iterator",data:=.fields #[.ref a,.int 0 0]}}:Shared).heap.objs.size=s.heap.objs.size+1:=Heap.size_push ..;rw[hsz]
  have z:b=s.heap.objs.size\/b=a:=by simpa using hb'
  have ha':a<s.heap.objs.size:=zf p.isList.choose_spec.1
  rcases z with z | z
  ·rw[z];exact jg _
  ·rw[z];exact jj ha'
 ·have hi:i<its.length:=by
   have z:=Array.getElem?_eq_some_iff.mp hv;simpa using z.1
  have hb':(ns.map V.int)[i]?=some (V.int (ns.getD i 0)):=by
   rw[zl,zg (by omega),zQ,zg (by omega)];rfl
  obtain⟨u,hu,ru⟩:=rv.get hb'
  have hv':its[i]?=some v:=by simpa using hv
  rw[hv'] at hu;cases hu;exact ru
 ·rw[zq] at hj
  have hj':j<ns.length:=by omega
  have hm:=hb ns[j] (zW hj')
  have ed:ns.getD j 0=ns[j]:=by rw[zQ,zg hj'];rfl
  obtain⟨_,l1,l2⟩:=pre (j+1) (by omega);unfold InLong;dsimp only;rw[ed]
  constructor<;>constructor<;>omega
 ·obtain⟨e,_,_⟩:=pre ns.length (zb _);rw[List.take_length] at e;refine⟨.int ns.sum,H,I.kept λb o e=>hk b o (λz=>?_) (zu _ e),⟨t',?_⟩,q⟩
  ·have z':b=s.heap.objs.size:=by simpa using z
   exact absurd (zf e) (by rw[z'];exact zL _)
  ·rw[zq,hl,e]
end
structure Blt(mg:Str->Option Value):Prop where
 len_:mg "len" = none
 isinstance_:mg "isinstance" = none
 all_:mg "all" = none
 sum_:mg "sum" = none
 max_:mg "max" = none
 min_:mg "min" = none
 int_:mg "int" = none
 str_:mg "str" = none
 bool_:mg "bool" = none
 list_:mg "list" = none
 tuple_:mg "tuple" = none
 dict_:mg "dict" = none
 range_:mg "range" = none
 enumerate_:mg "enumerate" = none
 zip_:mg "zip" = none
section
variable {X:Cx}
theorem Gi{x:Str}{v:V}{pos:Pos}(h:∃u,X.mg x=some u/\RelV v u)(hg:Gl X x:=by rfl)(hd:(x == ("__debug__":Str))=false:=by decide):PE X (.Name x pos) (tC v):=by
 obtain⟨u,hm,r⟩:=h;exact M7 hg hm r hd
end
def dX{α:Type}(l:List α)(lo hi:Option Int):List α:=(l.drop (HT.sIx l.length 0 lo)).take (HT.sIx l.length l.length hi - HT.sIx l.length 0 lo)
theorem Gj(l:List Nat)(lo hi:Option Int):Txt.slice (S l) lo hi=S (dX l lo hi):=by
 obtain⟨h1,h2,h3⟩:=Fx lo hi l.length
 have e:Builtin.Str.strSliceIndices lo hi 1 (S l).length=(List.range (HT.sIx l.length l.length hi - HT.sIx l.length 0 lo)).map (HT.sIx l.length 0 lo + ·):=by
  rw[gw];show sliceRange (sliceBounds lo hi none l.length).1 (sliceBounds lo hi none l.length).2.1 (sliceBounds lo hi none l.length).2.2=_;rw[h1,h2,h3,sliceRange_one]
 unfold Txt.slice;rw[e,pick_run,nF]
 split
 ·rename_i h
  have hl:HT.sIx l.length l.length hi - HT.sIx l.length 0 lo=l.length:=by simpa [gw] using h
  have hle:HT.sIx l.length l.length hi<=l.length:=HT.sIx_le _ _ (zb _) hi;have hlo:HT.sIx l.length 0 lo<=l.length:=HT.sIx_le _ _ (Nat.zero_le _) lo
  have h0:HT.sIx l.length 0 lo=0:=by omega
  have h1:HT.sIx l.length l.length hi=l.length:=by omega
  unfold dX;rw[h0,h1];simp
 ·rfl
section
variable {X:Cx}
def R7:V->Option Int->Option Int->Hp->VK->Prop:=λx lo hi H Q=>∃l,x=.str (S l)/\l.length<=sizeLine/\Q (.str (S (dX l lo hi))) H
theorem part_of{v:Value}{o:Option Int}(p:IsPart v o):∃q:Option (Int×Tok),v=partValue q/\q.map (·.1)=o:=by
 cases p with
 |none=>exact⟨none,rfl,rfl⟩
 |int i t=>exact⟨some (i,t),rfl,rfl⟩
theorem R8:SlR X R7:=by
 intro pins s σ H x v vl vu lo hi sl Q I rx hs pl pu h;obtain⟨l,rfl,hz,q⟩:=h;obtain⟨t,rfl⟩:=rx;obtain⟨ql,rfl,e1⟩:=part_of pl;obtain⟨qu,rfl,e2⟩:=part_of pu;refine⟨"str",_,F.slot_str_getitem.lookup,typeIs_str _ _ _,?_⟩;refine wpAny_getItem_str_slice (l:=ql) (u:=qu) (st:=none) hs rfl ?_;have key:(if((1:Int) == 1&&(Builtin.Str.strSliceIndices lo hi 1 (S l).length).length == (S l).length)=true then S l else⟨((Builtin.Str.strSliceIndices lo hi 1 (S l).length).filterMap ((S l).cps[·]?)).toArray⟩)=S (dX l lo hi):=Gj l lo hi;unfold sliceMade slicePicked;rw[e1,e2];refine post_val_or_str ⟨?_,λt' k=>?_⟩
 ·show(Txt.slice (S l) lo hi).length<=_;exact zG (Txt.slice_le _ _ _) (by rw[gw];exact hz)
 ·have e3:=Gj l lo hi;unfold Txt.slice at e3;show EP X pins σ Q (.str (if((1:Int) == 1&&(Builtin.Str.strSliceIndices lo hi 1 (S l).length).length == (S l).length)=true then S l else⟨((Builtin.Str.strSliceIndices lo hi 1 (S l).length).filterMap ((S l).cps[·]?)).toArray⟩) t') {s with toks:=k};rw[e3];exact⟨.str _,H,I.tok k,⟨t',rfl⟩,q⟩
end
namespace HT2
theorem getItem_tuple_whole{prog:Program}{w:World}{A:Around}{E:Value->Shared->Prop}{s:Shared}{t sl:Addr}{items:Array Value}{vl vu:Value}{lo hi:Option Int}{Q:Value->Shared->Prop}(ht:IsTup s.heap t items)(hs:s.heap.IsSliceOf sl vl vu .none)(pl:IsPart vl lo)(pu:IsPart vu hi)
  (hw:HT.sIx items.size 0 lo=0/\HT.sIx items.size items.size hi=items.size) (h:Q (.ref t) s):wpAny (model prog w) A (getItem (.ref t) (.ref sl)) Q E s:=by
 obtain⟨os,hos,hcs,hds⟩:=id hs;have hTs:s.TypeIs (.ref sl) "slice":=⟨os,hos,hcs⟩;unfold getItem
 try with_reducible refine zT ?_
 first | refine za (zc ?_) | skip
 refine za (wpAny_sequenceKey ht.typeIs (by decide) ?_)
 refine za (wpAny_callSpecial?_slot (name:=Str.ofString "__getitem__") ht.typeIs PyProof.Rows.slot_tuple_getitem
  (wpAny_call_entry PyProof.Rows.slot_tuple_getitem ht.typeIs entry_tuple_getitem ?_ (args_tuple_getitem _ _)))
 show wpAny _ _ (Builtin.Tuple.tupleItemsOf (.ref t) >>= _) _ _ s;refine za (tupleItemsOf_ ht ?_);refine za (wpAny_typeOf hTs ?_);rw[if_pos (by decide)];refine za (HT.sliceApplied_gen hs pl pu ?_)
 have hyes:(((HT.sIx items.size 0 lo:Nat):Int) == 0&&(1:Int) == 1&&(HT.sIx items.size items.size hi - HT.sIx items.size 0 lo) == items.size)=true:=by
  rw[hw.1,hw.2];simp
 show wpAny _ _ (if(((HT.sIx items.size 0 lo:Nat):Int) == 0&&(1:Int) == 1&&(HT.sIx items.size items.size hi - HT.sIx items.size 0 lo) == items.size)=true then _ else _) _ _ s;rw[if_pos hyes]
 have hex:∀{A':Around}{E':Value->Shared->Prop}{Q':Bool->Shared->Prop},Q' true s->wpAny (model prog w) A' (Builtin.Tuple.tupleIsExact (.ref t)) Q' E' s:=λ{A' E' Q'} hq=>by
  unfold Builtin.Tuple.tupleIsExact;exact za (wpAny_typeOf ht.typeIs (zc hq))
 refine za (hex ?_);rw[if_pos rfl];exact za (wpAny_rule (zc ⟨_,rfl,zc h⟩))
end HT2
section
variable {X:Cx}
def R9(K:PySem.W.Frag):V->Option Int->Option Int->Hp->VK->Prop:=λx lo hi H Q=>∃a xs,x=.ref a/\SqT K H a xs /\
 ((HT.sIx xs.length 0 lo=0/\HT.sIx xs.length xs.length hi=xs.length)->Q (.ref a) H)/\(¬(HT.sIx xs.length 0 lo=0/\HT.sIx xs.length xs.length hi=xs.length)->∀p,H p=none->Q (.ref p) (upd H p (.tup (jP xs lo hi))))
theorem Sd(K:PySem.W.Frag)(hK:X.K=K:=by rfl):SlR X (R9 K):=by
 subst hK;intro pins s σ H x v vl vu lo hi sl Q I rx hs pl pu h;obtain⟨a,xs,rfl,hx,q1,q2⟩:=h
 by_cases hw:HT.sIx xs.length 0 lo=0/\HT.sIx xs.length xs.length hi=xs.length
 ·cases rx;obtain⟨its,r,ht,hz⟩:=I.tuple hx
  have hlen:its.toArray.size=xs.length:=by rw[zq];exact r.length.symm
  exact⟨"tuple",_,PyProof.Rows.slot_tuple_getitem.lookup,ht.typeIs,HT2.getItem_tuple_whole ht hs pl pu (by rw[hlen];exact hw) ⟨.ref a,H,I,rfl,q1 hw⟩⟩
 ·exact QV pins s σ H _ v vl vu lo hi sl Q I rx hs pl pu ⟨a,xs,rfl,hx,hw,q2 hw⟩
inductive TyQ (K:PySem.W.Frag) (H:Hp):V->String->Prop where
 | non:TyQ K H .non "NoneType"
 | bl (x:Bool):TyQ K H (.bl x) "bool"
 | int (i:Int):TyQ K H (.int i) "int"
 | str (x:Str):TyQ K H (.str x) "str"
 | lst {a:Addr}{xs:List V} (e:SqL K H a xs):TyQ K H (.ref a) "list"
 | tup {a:Addr}{xs:List V} (e:SqT K H a xs):TyQ K H (.ref a) "tuple"
 | dK {a:Addr}{kvs:List (Key×V)} (e:H a=some (.dK kvs)):TyQ K H (.ref a) "dict"
def Sh(K:PySem.W.Frag):List V->Hp->VK->Prop:=λxs H Q=>∃x n t b,xs=[x,.ty n]/\TyQ K H x t/\PySem.W.kitOne K (.type t) (.type n)=some b/\Q (.bl b) H
theorem Sq(K:PySem.W.Frag)(hK:X.K=K:=by rfl):iC X (.builtin "isinstance") (Sh K):=by
 subst hK;intro pins s σ H xs us Q I r h;obtain⟨x,n,t,b,rfl,ty,e,q⟩:=h;obtain⟨u,c,rfl,r1,r2⟩:=vals2 r;cases(show c=.type n from r2)
 have fin:∀tk,EP X pins σ Q (.bool b) {s with toks:=tk}:=λtk=>⟨.bl b,H,I.tok tk,rfl,q⟩
 cases ty with
 |non=>exact pP I r1 .non e fin
 |bl y=>exact pP I r1 (.bl y) e fin
 |int i=>exact pP I r1 (.int i) e fin
 |str y=>exact pP I r1 (.str y) e fin
 | @lst a xs ea =>
  cases(show u=Value.ref a from r1);obtain⟨its,_,p,_⟩:=I.list ea;obtain⟨o,ho,hc,_⟩:=p.isList;exact PySem.W.kia_one PySem.W.kitx_list I.kIn ⟨o,ho,hc⟩ e (λz=>nomatch z) fin
 | @tup a xs ea =>
  cases(show u=Value.ref a from r1);obtain⟨its,_,p,_⟩:=I.tuple ea;obtain⟨o,ho,hc,_⟩:=p;exact PySem.W.kia_one PySem.W.kitx_tuple I.kIn ⟨o,ho,hc⟩ e (λz=>nomatch z) fin
 | @dK a kvs ea=>exact pP I r1 (.dK ea) e fin
theorem Ss(K:PySem.W.Frag)(n:String):PySem.W.kitOne K (.type n) (.type n)=some true:=by
 unfold PySem.W.kitOne;rw[if_pos (beq_self_eq_true _)]
end
theorem Gk:∀{ds:List PyData},(∀d∈ds,d.canLay0=true)->PyData.canLayAll0 ds=true
 | [],_=>rfl
 |d::ds,h=>by rw[PyData.canLayAll0,h d zr,Gk λx hx=>h x (zw _ hx)];rfl
theorem tQ{n:Nat}:∀{ds:List PyData},(∀d∈ds,d.depth<=n)->PyData.depthAll ds<=n
 | [],_=>by rw[PyData.depthAll];exact Nat.zero_le _
 |d::ds,h=>by
  rw[PyData.depthAll];exact Nat.max_le.mpr ⟨h d zr,tQ λx hx=>h x (zw _ hx)⟩
theorem Su{n:Nat}(hn:n<60){ds:List PyData}(h:∀d∈ds,d.canLay0=true/\d.depth<=n):okD (.list ds)=true:=by
 unfold okD;rw[zn];refine⟨?_,zz ?_⟩
 ·show PyData.canLayAll0 ds=true
  exact Gk λd hd=>(h d hd).1
 ·show PyData.depthAll ds+1<=60
  have:=tQ λd hd=>(h d hd).2
  omega
section
variable {X:Cx}
def Sw:R2:=λx y H Q=>∃(l:List Nat) (n:Int),x=.str (S l)/\y=.int n/\-1000000<n/\n<1000000/\l.length * n.toNat<=16777216/\Q (.str (S (List.replicate n.toNat l).flatten)) H
theorem Gm(l:List Nat):∀(n:Nat) (a:Array Nat),(List.replicate n (S l).cps).foldl (· ++ ·) a=a++(List.replicate n l).flatten.toArray
 | 0,a=>by simp
 |n+1,a=>by
  rw[List.replicate_succ,List.foldl_cons,Gm l n,List.replicate_succ,List.flatten_cons];simp[S]
theorem Sx:OpR X (binaryOp .Mult) Sw:=by
 intro pins s σ H x y v u Q I rx ry h;obtain⟨l,n,rfl,rfl,h1,h2,h3,q⟩:=h;obtain⟨t,rfl⟩:=rx;obtain⟨t',rfl⟩:=ry;have hs:sizeLine=16777216:=sizeLine_eq
 by_cases hn:n<1
 ·have e0:n.toNat=0:=by omega
  rw[e0] at q;exact P.mul_str_none hn (by omega) ⟨.str (S []),H,I.tok _,⟨s.toks,rfl⟩,q⟩
 refine P.mul_str ?_ (λ_ _=>?_) (λ_ _=>?_) ?_
 ·rw[zo (by omega),zo (by omega)];rfl
 ·rw[gw];intro hz
  have h4:(l.length:Int) * n<=16777216:=by
   have:((l.length * n.toNat:Nat):Int)<=16777216:=by omega
   rw[Int.natCast_mul,Int.toNat_of_nonneg (by omega)] at this;exact this
  have h5:(2 ^ 63 - 1) / n<(l.length:Int):=hz;have h6:=(Int.ediv_lt_iff_lt_mul (show 0<n by omega)).mp h5;omega
 ·rw[gw];unfold Builtin.Str.tooLong;exact zo (by omega)
 ·rw[if_neg (by omega)]
  by_cases hl:(n == 1 || (S l).length == 0)=true
  ·rw[if_pos hl]
   have e:(List.replicate n.toNat l).flatten=l:=by
    rw[Bool.or_eq_true,beq_iff_eq,beq_iff_eq,gw] at hl
    rcases hl with z | z
    ·rw[z];show(List.replicate 1 l).flatten=l;simp
    ·have z':=List.eq_nil_of_length_eq_zero z;subst z';rw[List.flatten_eq_nil_iff];intro x hx;exact(List.mem_replicate.mp hx).2
   rw[e] at q;exact⟨.str (S l),H,I,⟨t,rfl⟩,q⟩
  ·rw[if_neg hl,Gm];refine⟨?_,.str (S (List.replicate n.toNat l).flatten),H,I.tok _,⟨s.toks,?_⟩,q⟩
   ·show(#[]++(List.replicate n.toNat l).flatten.toArray).size<=sizeLine;simp only[Array.size_append,zq,List.length_flatten,List.map_replicate,List.sum_replicate_nat];simp;rw[Nat.mul_comm];omega
   ·congr 1;simp[S]
end
inductive D where
 | non | bl (b:Bool) | int (i:Int) | str (l:List Nat) | lst (ds:List D) | tup (ds:List D) | dic (ks vs:List D) | ob (n:Nat)
inductive Ob where
 | ins (c:Str) (fs:List (Str×D))
 | ml (ds:List D)
 | dt (kvs:List (List Key×D))
 | df (kvs:List (List Key×D))
abbrev ao:=List Ob
abbrev az:=List (Option D)
structure Xc where
 cls:Str
 fs:List (Str×D)
inductive Res (α:Type) where
 | ok (a:α) (O:ao) | ex (x:Xc) (O:ao) | no
inductive Fl where
 | nx (ρ:az) (O:ao) | rt (d:D) (O:ao) | bk (ρ:az) (O:ao) | ct (ρ:az) (O:ao) | ex (x:Xc) (O:ao) | no
abbrev M(α:Type):=az->ao->Res α
abbrev MS:=az->ao->Fl
def Res.bind{α β:Type}(r:Res α)(f:α->ao->Res β):Res β:=match r with
 | .ok a O=>f a O
 | .ex x O=>.ex x O
 | .no=>.no
theorem Res.bind_ok{α β:Type}{r:Res α}{f:α->ao->Res β}{b:β}{O':ao}(h:r.bind f=.ok b O'):∃a O,r=.ok a O/\f a O=.ok b O':=by
 cases r with
 |ok a O=>exact⟨a,O,rfl,h⟩
 |ex x O=>cases h
 |no=>cases h
def pU:Expr->Bool
 | .Starred _ _=>false
 | _=>true
theorem cD{e:Expr}{es:List Expr}{env:Env}(h:pU e=true):starEach (e::es) env=(false,eval e env)::starEach es env:=by
 cases e<;>first | rfl | cases h
theorem eO{pos:Pos}{env:Env}:∀{es:List Expr},es.all pU=true->(backTo pos (starEach es env)).any (·.1)=false
 | [],_=>by simp[starEach,backTo]
 |e::es,h=>by
  rw[List.all_cons,zn] at h;rw[cD h.1];show(false || (backTo pos (starEach es env)).any (·.1))=false;rw[eO h.2];rfl
theorem iG{e:Expr}{env:Env}(h:pU e=true):starEach [e] env=[(false,eval e env)]:=by rw[cD h];simp[starEach]
theorem Sy{e f:Expr}{env:Env}(h:pU e=true)(h':pU f=true):starEach [e,f] env=[(false,eval e env),(false,eval f env)]:=by rw[cD h,iG h']
abbrev Frag:=PySem.W.Frag
def tR:Key->D
 | .inl i=>.int i
 | .inr x=>.str x.cps.toList
def RdK(K:Frag)(H:Hp)(a:Addr)(xs:List V):Prop:=Rd H a (.lst xs)\/∃(its:List Value) (n:Nat),K.lookup a=some {cls:=.type "list",data:=.seq its.toArray n}/\its.length<=sizeLine/\aR xs its
theorem RdK.sq{K:Frag}{H:Hp}{a:Addr}{xs:List V}(h:RdK K H a xs):SqL K H a xs:=by
 rcases h with h | ⟨its,n,h1,h2,h3⟩
 ·exact .inl h
 ·exact .inr ⟨_,its.toArray,n,h1,rfl,rfl,rfl,by simpa using h2,by simpa using h3⟩
theorem RdK.ok{X:Cx}{pins:List (Addr×Obj)}{σ:St}{H:Hp}{s:Shared}{a:Addr}{xs:List V}(h:RdK X.K H a xs)(I:Inv X pins σ H s):xs.length<=sizeLine/\∃(its:List Value) (n:Nat),aR xs its/\s.heap.get? a=some {cls:=.type "list",data:=.seq its.toArray n}:=by
 rcases h with h | ⟨its,n,h1,h2,h3⟩
 ·exact h.ok I.hok
 ·exact⟨by rw[h3.length];exact h2,its,n,h3,I.kIn a _ h1⟩
def TqT(K:Frag)(F:Hp)(a:Addr)(xs:List V):Prop :=
 F a=some (.tup xs)\/∃(o:Obj) (its:Array Value) (n:Nat),K.lookup a=some o/\o.cls=.type "tuple"/\o.data=.seq its n/\its.size<=sizeLine/\aR xs its.toList
theorem TqT.sq{K:Frag}{F:Hp}{a:Addr}{xs:List V}(h:TqT K F a xs):SqT K F a xs:=h.imp .inl id
mutual
def Rp(K:Frag)(F:Hp)(as:List Addr):V->D->Prop
 |v,.non=>v=.non
 |v,.bl b=>v=.bl b
 |v,.int i=>v=.int i
 |v,.str l=>v=.str (S l)
 |v,.lst ds=>∃a xs,v=.ref a/\RdK K F a xs/\Rps K F as xs ds
 |v,.tup ds=>∃a xs,v=.ref a/\TqT K F a xs/\Rps K F as xs ds
 |v,.dic ks vs=>∃(a:Addr) (kvs:List (Key×V)),v=.ref a/\F a=some (.dK kvs)/\ks=kvs.map (λp=>tR p.1)/\Rps K F as (kvs.map (·.2)) vs
 |v,.ob n=>∃a,v=.ref a/\as[n]?=some a
def Rps(K:Frag)(F:Hp)(as:List Addr):List V->List D->Prop
 |xs,[]=>xs=[]
 |xs,d::ds=>∃x r,xs=x::r/\Rp K F as x d/\Rps K F as r ds
end
section
variable {K:Frag}{F F':Hp}{as as':List Addr}
theorem Rd.mono{H H':Hp}{a:Addr}{u:HO}(e:Same H H')(h:Rd H a u):Rd H' a u:=by
 rcases h with h | ⟨o,h⟩
 ·exact .inl (e _ _ h)
 ·exact .inr ⟨o,e _ _ h⟩
theorem RdK.mono{H H':Hp}{a:Addr}{xs:List V}(e:Same H H')(h:RdK K H a xs):RdK K H' a xs:=h.imp (λz=>z.mono e) id
mutual
theorem Rp.mono(e:Same F F')(ea:∀(n:Nat) (a:Addr),as[n]?=some a->as'[n]?=some a):∀(d:D) {v:V},Rp K F as v d->Rp K F' as' v d
 | .non,v,h=>by rw[Rp] at h ⊢;exact h
 | .bl b,v,h=>by rw[Rp] at h ⊢;exact h
 | .int i,v,h=>by rw[Rp] at h ⊢;exact h
 | .str x,v,h=>by rw[Rp] at h ⊢;exact h
 | .lst ds,v,h=>by
  rw[Rp] at h ⊢;obtain⟨a,xs,h1,h2,h3⟩:=h;exact⟨a,xs,h1,h2.mono e,Rps.mono e ea ds h3⟩
 | .tup ds,v,h=>by
  rw[Rp] at h ⊢;obtain⟨a,xs,h1,h2,h3⟩:=h;exact⟨a,xs,h1,h2.imp (e _ _) id,Rps.mono e ea ds h3⟩
 | .dic ks vs,v,h=>by
  rw[Rp] at h ⊢;obtain⟨a,kvs,h1,h2,h3,h4⟩:=h;exact⟨a,kvs,h1,e _ _ h2,h3,Rps.mono e ea vs h4⟩
 | .ob n,v,h=>by
  rw[Rp] at h ⊢;obtain⟨a,h1,h2⟩:=h;exact⟨a,h1,ea _ _ h2⟩
theorem Rps.mono(e:Same F F')(ea:∀(n:Nat) (a:Addr),as[n]?=some a->as'[n]?=some a):∀(ds:List D) {xs:List V},Rps K F as xs ds->Rps K F' as' xs ds
 | [],xs,h=>by rw[Rps] at h ⊢;exact h
 |d::ds,xs,h=>by
  rw[Rps] at h ⊢;obtain⟨x,r,h1,h2,h3⟩:=h;exact⟨x,r,h1,Rp.mono e ea d h2,Rps.mono e ea ds h3⟩
end
theorem Rp.non:Rp K F as .non .non:=by rw[Rp]
theorem Rp.bl{b:Bool}:Rp K F as (.bl b) (.bl b):=by rw[Rp]
theorem Rp.int{i:Int}:Rp K F as (.int i) (.int i):=by rw[Rp]
theorem Rp.str{l:List Nat}:Rp K F as (.str (S l)) (.str l):=by rw[Rp]
theorem Rp.unN{v:V}(h:Rp K F as v .non):v=.non:=by rw[Rp] at h;exact h
theorem Rp.unB{v:V}{b:Bool}(h:Rp K F as v (.bl b)):v=.bl b:=by rw[Rp] at h;exact h
theorem Rp.unI{v:V}{i:Int}(h:Rp K F as v (.int i)):v=.int i:=by rw[Rp] at h;exact h
theorem Rp.unS{v:V}{l:List Nat}(h:Rp K F as v (.str l)):v=.str (S l):=by rw[Rp] at h;exact h
theorem Rp.unL{v:V}{ds:List D}(h:Rp K F as v (.lst ds)):∃a xs,v=.ref a/\RdK K F a xs/\Rps K F as xs ds:=by rw[Rp] at h;exact h
theorem Rp.unT'{v:V}{ds:List D}(h:Rp K F as v (.tup ds)):∃a xs,v=.ref a/\TqT K F a xs/\Rps K F as xs ds:=by rw[Rp] at h;exact h
theorem Rp.unT{v:V}{ds:List D}(h:Rp K F as v (.tup ds)):∃a xs,v=.ref a/\SqT K F a xs/\Rps K F as xs ds:=let ⟨a,xs,e,h1,h2⟩:=h.unT';⟨a,xs,e,h1.sq,h2⟩
theorem Rp.unO{v:V}{n:Nat}(h:Rp K F as v (.ob n)):∃a,v=.ref a/\as[n]?=some a:=by rw[Rp] at h;exact h
theorem Rp.unD{v:V}{ks vs:List D}(h:Rp K F as v (.dic ks vs)):∃(a:Addr) (kvs:List (Key×V)),v=.ref a/\F a=some (.dK kvs)/\ks=kvs.map (λp=>tR p.1)/\Rps K F as (kvs.map (·.2)) vs:=by rw[Rp] at h;exact h
theorem Rp.mkL{a:Addr}{xs:List V}{ds:List D}(h:RdK K F a xs)(hs:Rps K F as xs ds):Rp K F as (.ref a) (.lst ds):=by rw[Rp];exact⟨a,xs,rfl,h,hs⟩
theorem Rp.mkT{a:Addr}{xs:List V}{ds:List D}(h:TqT K F a xs)(hs:Rps K F as xs ds):Rp K F as (.ref a) (.tup ds):=by rw[Rp];exact⟨a,xs,rfl,h,hs⟩
theorem Rp.mkO{a:Addr}{n:Nat}(h:as[n]?=some a):Rp K F as (.ref a) (.ob n):=by rw[Rp];exact⟨a,rfl,h⟩
theorem Rps.nil:Rps K F as [] []:=by rw[Rps]
theorem Rps.cons{x:V}{xs:List V}{d:D}{ds:List D}(h:Rp K F as x d)(hs:Rps K F as xs ds):Rps K F as (x::xs) (d::ds):=by
 rw[Rps];exact⟨x,xs,rfl,h,hs⟩
theorem Rps.un{xs:List V}{d:D}{ds:List D}(h:Rps K F as xs (d::ds)):∃x r,xs=x::r/\Rp K F as x d/\Rps K F as r ds:=by rw[Rps] at h;exact h
theorem Rps.un0{xs:List V}(h:Rps K F as xs []):xs=[]:=by rw[Rps] at h;exact h
theorem Rps.length:∀{ds:List D}{xs:List V},Rps K F as xs ds->xs.length=ds.length
 | [],xs,h=>by rw[h.un0];rfl
 |d::ds,xs,h=>by
  obtain⟨x,r,rfl,_,h3⟩:=h.un;simp[Rps.length h3]
theorem Rps.get:∀{ds:List D}{xs:List V}{i:Nat}{x:V},Rps K F as xs ds->xs[i]?=some x->∃d,ds[i]?=some d/\Rp K F as x d
 | [],xs,i,x,h,e=>by rw[h.un0] at e;simp at e
 |d::ds,xs,i,x,h,e=>by
  obtain⟨y,r,rfl,h2,h3⟩:=h.un
  cases i with
  |zero=>simp at e;subst e;exact⟨d,rfl,h2⟩
  |succ i =>
   obtain⟨d',e',q⟩:=Rps.get (i:=i) (x:=x) h3 (by simpa using e);exact⟨d',by simpa using e',q⟩
theorem Rps.get':∀{ds:List D}{xs:List V}{i:Nat}{d:D},Rps K F as xs ds->ds[i]?=some d->∃x,xs[i]?=some x/\Rp K F as x d:=by
 intro ds xs i d h e;have hl:=h.length
 have hi:i<xs.length:=by rw[hl];exact(zh.mp e).1
 obtain⟨d',e',q⟩:=h.get (zg hi);rw[e] at e';cases e';exact⟨_,zg hi,q⟩
theorem Rps.append{ys:List V}{es:List D}(hy:Rps K F as ys es):∀{ds:List D}{xs:List V},Rps K F as xs ds->Rps K F as (xs++ys) (ds++es)
 | [],xs,h=>by rw[h.un0];exact hy
 |e::ds,xs,h=>by
  obtain⟨y,r,rfl,h2,h3⟩:=h.un;exact Rps.cons h2 (Rps.append hy h3)
theorem Rps.snoc{x:V}{d:D}{ds:List D}{xs:List V}(h:Rps K F as xs ds)(hx:Rp K F as x d):Rps K F as (xs++[x]) (ds++[d]):=Rps.append (Rps.cons hx Rps.nil) h
theorem Rps.take:∀{ds:List D}{xs:List V} (n:Nat),Rps K F as xs ds->Rps K F as (xs.take n) (ds.take n)
 | _,_,0,_=>by simpa using Rps.nil
 | [],xs,n+1,h=>by rw[h.un0];simpa using Rps.nil
 |d::ds,xs,n+1,h=>by
  obtain⟨y,r,rfl,h2,h3⟩:=h.un;exact Rps.cons h2 (Rps.take n h3)
theorem Rps.drop:∀{ds:List D}{xs:List V} (n:Nat),Rps K F as xs ds->Rps K F as (xs.drop n) (ds.drop n)
 | _,_,0,h=>by simpa using h
 | [],xs,n+1,h=>by rw[h.un0];simpa using Rps.nil
 |d::ds,xs,n+1,h=>by
  obtain⟨y,r,rfl,h2,h3⟩:=h.un;exact Rps.drop n h3
theorem Rps.set:∀{ds:List D}{xs:List V}{x:V}{d:D} (n:Nat),Rps K F as xs ds->Rp K F as x d->Rps K F as (xs.set n x) (ds.set n d)
 | [],xs,x,d,n,h,_=>by rw[h.un0];simpa using Rps.nil
 |e::ds,xs,x,d,0,h,hx=>by
  obtain⟨y,r,rfl,h2,h3⟩:=h.un;exact Rps.cons hx h3
 |e::ds,xs,x,d,n+1,h,hx=>by
  obtain⟨y,r,rfl,h2,h3⟩:=h.un;exact Rps.cons h2 (Rps.set n h3 hx)
theorem Rps.rep{ds:List D}{xs:List V}(h:Rps K F as xs ds):∀n:Nat,Rps K F as (List.replicate n xs).flatten (List.replicate n ds).flatten
 | 0=>by simpa using Rps.nil
 |n+1=>by
  rw[List.replicate_succ,List.replicate_succ,List.flatten_cons,List.flatten_cons];exact Rps.append (Rps.rep h n) h
end
def isD:HO->Bool
 | .ins _ _ _=>false
 | .own _=>false
 | .xd _=>false
 | _=>true
def isL:HO->Bool
 | .lst _=>true
 | .dK _=>true
 | _=>false
theorem Gn{o:HO}(h:isL o=true):isD o=true:=by
 cases o<;>first | rfl | cases h
structure Gr(H F:Hp)(as:List Addr)(H' F':Hp)(as':List Addr):Prop where
 fz:∀a o,H a=some o->a∉as->isL o=true->F' a=F a
 ff:Same F F'
 nw:∃new,as'=as++new/\∀a∈new,H a=none
 fr:∀a o,H a=some o->a∉as->isD o=true->H' a=some o
 dm:∀a,H' a=none->H a=none
 kz:∀a o u,H a=some (.frz o u)->H' a=some (.frz o u)
structure Pt where
 p:Addr->Prop
 ss:List (Nat×V×D)
instance:CoeFun Pt (λ_=>Addr->Prop):=⟨Pt.p⟩
def Pt.all(H:Hp):Pt:=⟨λa=>H a≠none,[]⟩
structure GrS(P:Pt)(H F:Hp)(as:List Addr)(H' F':Hp)(as':List Addr):Prop where
 fz:∀a o,P a->H a=some o->a∉as->isL o=true->F' a=F a
 ff:Same F F'
 nw:∃new,as'=as++new/\∀a∈new,H a=none
 fr:∀a o,P a->H a=some o->a∉as->isD o=true->H' a=some o
 dm:∀a,H' a=none->H a=none
 kz:∀a o u,H a=some (.frz o u)->H' a=some (.frz o u)
section
variable {H F H' F' H2 F2:Hp}{as as' as2:List Addr}{P:Pt}
theorem Gr.refl:Gr H F as H F as:=⟨λ_ _ _ _ _=>rfl,Same.refl F,⟨[],by simp,λ_ h=>nomatch h⟩,λ_ _ h _ _=>h,λ_ h=>h,λ_ _ _ h=>h⟩
theorem Gr.trans(a:Gr H F as H' F' as')(b:Gr H' F' as' H2 F2 as2):Gr H F as H2 F2 as2:=by
 obtain⟨n1,e1,h1⟩:=a.nw;obtain⟨n2,e2,h2⟩:=b.nw;refine⟨λc o hc hn hd=>?_,a.ff.trans b.ff,⟨n1++n2,by rw[e2,e1,zJ],λc hc=>?_⟩,λc o e hn hd=>?_,λc h=>a.dm c (b.dm c h),λc o u h=>b.kz c o u (a.kz c o u h)⟩
 ·have q:=a.fr c o hc hn (Gn hd);refine(b.fz c o q ?_ hd).trans (a.fz c o hc hn hd);rw[e1];intro z
  rcases zF.mp z with z | z
  ·exact hn z
  ·rw[h1 c z] at hc;cases hc
 ·rcases zF.mp hc with z | z
  ·exact h1 c z
  ·exact a.dm c (h2 c z)
 ·have q:=a.fr c o e hn hd;refine b.fr c o q ?_ hd;rw[e1];intro z
  rcases zF.mp z with z | z
  ·exact hn z
  ·rw[h1 c z] at e;cases e
theorem Gr.toS(a:Gr H F as H' F' as'):GrS P H F as H' F' as':=⟨λc o _=>a.fz c o,a.ff,a.nw,λc o _ e hn hd=>a.fr c o e hn hd,a.dm,a.kz⟩
theorem GrS.refl:GrS P H F as H F as:=Gr.refl.toS
theorem GrS.trans(a:GrS P H F as H' F' as')(b:GrS P H' F' as' H2 F2 as2):GrS P H F as H2 F2 as2:=by
 obtain⟨n1,e1,h1⟩:=a.nw;obtain⟨n2,e2,h2⟩:=b.nw;refine⟨λc o p hc hn hd=>?_,a.ff.trans b.ff,⟨n1++n2,by rw[e2,e1,zJ],λc hc=>?_⟩,λc o p e hn hd=>?_,λc h=>a.dm c (b.dm c h),λc o u h=>b.kz c o u (a.kz c o u h)⟩
 ·have q:=a.fr c o p hc hn (Gn hd);refine(b.fz c o p q ?_ hd).trans (a.fz c o p hc hn hd);rw[e1];intro z
  rcases zF.mp z with z | z
  ·exact hn z
  ·rw[h1 c z] at hc;cases hc
 ·rcases zF.mp hc with z | z
  ·exact h1 c z
  ·exact a.dm c (h2 c z)
 ·have q:=a.fr c o p e hn hd;refine b.fr c o p q ?_ hd;rw[e1];intro z
  rcases zF.mp z with z | z
  ·exact hn z
  ·rw[h1 c z] at e;cases e
theorem GrS.gr(a:GrS (Pt.all H) H F as H' F' as'):Gr H F as H' F' as':=⟨λc o e=>a.fz c o (show H c≠none by rw[e];exact λz=>nomatch z) e,a.ff,a.nw,λc o e=>a.fr c o (show H c≠none by rw[e];exact λz=>nomatch z) e,a.dm,a.kz⟩
theorem Gr.at_(a:Gr H F as H' F' as'):∀(n:Nat) (c:Addr),as[n]?=some c->as'[n]?=some c:=λn c h=>by
 obtain⟨new,e,_⟩:=a.nw;rw[e,zv (zh.mp h).1];exact h
theorem GrS.at_(a:GrS P H F as H' F' as'):∀(n:Nat) (c:Addr),as[n]?=some c->as'[n]?=some c:=λn c h=>by
 obtain⟨new,e,_⟩:=a.nw;rw[e,zv (zh.mp h).1];exact h
theorem Gr.out(a:Gr H F as H' F' as'){c:Addr}(h:c∉as)(e:H c≠none):c∉as':=by
 obtain⟨new,e1,h1⟩:=a.nw;rw[e1];intro z
 rcases zF.mp z with z | z
 ·exact h z
 ·exact e (h1 c z)
theorem Rp.gr{K:Frag}{v:V}{d:D}(h:Rp K F as v d)(a:Gr H F as H' F' as'):Rp K F' as' v d:=Rp.mono a.ff a.at_ d h
theorem Rps.gr{K:Frag}{v:List V}{d:List D}(h:Rps K F as v d)(a:Gr H F as H' F' as'):Rps K F' as' v d:=Rps.mono a.ff a.at_ d h
theorem Rp.grS{K:Frag}{v:V}{d:D}(h:Rp K F as v d)(a:GrS P H F as H' F' as'):Rp K F' as' v d:=Rp.mono a.ff a.at_ d h
end
structure FsR(K:Frag)(F:Hp)(as:List Addr)(gs:List (Str×V))(fs:List (Str×D)):Prop where
 nm:gs.map (·.1)=fs.map (·.1)
 vl:Rps K F as (gs.map (·.2)) (fs.map (·.2))
def ObR(K:Frag)(mg:Str->Option Value)(H F:Hp)(as:List Addr)(a:Addr):Ob->Prop
 | .ins c fs=>∃C dx gs,mg c=some (.ref C)/\H a=some (.ins C dx gs)/\FsR K F as gs fs
 | .ml ds=>∃xs,H a=some (.lst xs)/\Rps K F as xs ds
 | .dt kvs=>∃xs:List (List Key×V),H a=some (.dT xs)/\xs.map (·.1)=kvs.map (·.1)/\Rps K F as (xs.map (·.2)) (kvs.map (·.2))
 | .df kvs=>∃(o:Obj) (xs:List (List Key×V)),H a=some (.frz o (.dT xs))/\xs.map (·.1)=kvs.map (·.1)/\Rps K F as (xs.map (·.2)) (kvs.map (·.2))
structure RlO(K:Frag)(mg:Str->Option Value)(O:ao)(H F:Hp)(as:List Addr):Prop where
 fh:Same F H
 fd:∀a o,F a=some o->isD o=true
 nd:as.Nodup
 len:as.length=O.length
 fa:∀a∈as,F a=none
 ob:∀(n:Nat) (a:Addr) (o:Ob),as[n]?=some a->O[n]?=some o->ObR K mg H F as a o
inductive Md where
 | v | s | o
 deriving DecidableEq
def jz:D->Bool
 | .lst _=>false
 | _=>true
def iH(P:Pt)(K:Frag)(H F:Hp)(as:List Addr):Md->V->D->Prop
 | .v,v,d=>Rp K F as v d
 | .s,v,d=>Rp K F as v d\/∃a xs ds,v=.ref a/\d=.lst ds/\H a=some (.lst xs)/\a∉as/\P a/\Rps K F as xs ds
 | .o,v,d=>(jz d=true/\Rp K F as v d)\/∃a xs ds,v=.ref a/\d=.lst ds/\H a=some (.lst xs)/\F a=none/\a∉as/\¬P a/\Rps K F as xs ds
structure SlO(K:Frag)(md:List Md)(P:Pt)(ρ:az)(σ:St)(H F:Hp)(as:List Addr):Prop where
 len:σ.length=md.length
 len':ρ.length=md.length
 pd:∀a,P a->H a≠none
 sl:∀(i:Nat) (m:Md) (d:D),md[i]?=some m->ρ[i]?=some (some d)->∃v,σ[i]?=some (some v)/\iH P K H F as m v d
 inj:∀(i j:Nat) (a:Addr) (ds es:List D),md[i]?=some .o->md[j]?=some .o->ρ[i]?=some (some (.lst ds))->ρ[j]?=some (some (.lst es))->σ[i]?=some (some (.ref a))->σ[j]?=some (some (.ref a))->i=j
 pin:∀x∈P.ss,md[x.1]?=some .s/\ρ[x.1]?=some (some x.2.2)/\σ[x.1]?=some (some x.2.1)
section
variable {K:Frag}{mg:Str->Option Value}{md:List Md}{P:Pt}{ρ:az}{σ:St}{H F H' F':Hp}{as as':List Addr}{O O':ao}
theorem iH.step{m:Md}{v:V}{d:D}(h:iH P K H F as m v d)(g:Gr H F as H' F' as'):iH P K H' F' as' m v d:=by
 cases m with
 |v=>exact Rp.gr (show Rp K F as v d from h) g
 |s =>
  rcases h with h | ⟨a,xs,ds,e1,e2,e3,e4,e5,e6⟩
  ·exact .inl (h.gr g)
  ·exact .inr ⟨a,xs,ds,e1,e2,g.fr _ _ e3 e4 rfl,g.out e4 (by rw[e3];exact λz=>nomatch z),e5,e6.gr g⟩
 |o =>
  rcases h with⟨h1,h⟩ | ⟨a,xs,ds,e1,e2,e3,e0,e4,e5,e6⟩
  ·exact .inl ⟨h1,h.gr g⟩
  ·have hn:H a≠none:=by rw[e3];exact λz=>nomatch z
   exact .inr ⟨a,xs,ds,e1,e2,g.fr _ _ e3 e4 rfl,by rw[g.fz a _ e3 e4 rfl];exact e0,g.out e4 hn,e5,e6.gr g⟩
theorem SlO.step(h:SlO K md P ρ σ H F as)(g:Gr H F as H' F' as'):SlO K md P ρ σ H' F' as' :=
 ⟨h.len,h.len',λa p z=>h.pd a p (g.dm a z),λi m d e1 e2=>let ⟨v,q,r⟩:=h.sl i m d e1 e2;⟨v,q,r.step g⟩,h.inj,h.pin⟩
end
def Sv(K:Frag)(H F:Hp)(as:List Addr)(v:V)(d:D):Prop :=
 Rp K F as v d\/∃a xs ds,v=.ref a/\d=.lst ds/\H a=some (.lst xs)/\a∉as/\Rps K F as xs ds
def Lk(K:Frag)(H F:Hp)(as:List Addr)(v:V)(d:D):Prop :=
 Rp K F as v d\/∃a xs ds,v=.ref a/\d=.lst ds/\H a=some (.lst xs)/\Rps K F as xs ds
def Ow(K:Frag)(N:Addr->Prop)(H F:Hp)(as:List Addr)(v:V)(d:D):Prop :=
 (jz d=true/\Rp K F as v d)\/∃a xs ds,v=.ref a/\d=.lst ds/\H a=some (.lst xs)/\F a=none/\a∉as/\N a/\Rps K F as xs ds
def aZ(O:ao)(d:D):D:=match d with
 | .ob n=>match O[n]? with
  |some (.ml ds)=>.lst ds
  | _=>.ob n
 |d=>d
section
variable {K:Frag}{mg:Str->Option Value}{H0 H F H' F':Hp}{as as':List Addr}{O:ao}{v:V}{d:D}
theorem Sv.gr(h:Sv K H F as v d)(g:Gr H F as H' F' as'):Sv K H' F' as' v d:=by
 rcases h with h | ⟨a,xs,ds,e1,e2,e3,e4,e5⟩
 ·exact .inl (h.gr g)
 ·exact .inr ⟨a,xs,ds,e1,e2,g.fr _ _ e3 e4 rfl,g.out e4 (by rw[e3];exact λz=>nomatch z),e5.gr g⟩
theorem Sv.lk(h:Sv K H F as v d)(r:RlO K mg O H F as):Lk K H F as v (aZ O d):=by
 rcases h with h | ⟨a,xs,ds,rfl,rfl,e3,e4,e5⟩
 ·cases d with
  |ob n =>
   obtain⟨a,rfl,ha⟩:=h.unO;unfold aZ;dsimp only
   split
   ·rename_i ds e;obtain⟨xs,e1,e2⟩:=r.ob n a _ ha e;exact .inr ⟨a,xs,ds,rfl,rfl,e1,e2⟩
   ·exact .inl (Rp.mkO ha)
  | _=>exact .inl h
 ·exact .inr ⟨a,xs,ds,rfl,rfl,e3,e5⟩
theorem Lk.list{ds:List D}(h:Lk K H F as v (.lst ds))(fh:Same F H):∃a xs,v=.ref a/\RdK K H a xs/\Rps K F as xs ds:=by
 rcases h with h | ⟨a,xs,ds',e1,e2,e3,e4⟩
 ·obtain⟨a,xs,e,h1,h2⟩:=h.unL;exact⟨a,xs,e,h1.mono fh,h2⟩
 ·cases e2;exact⟨a,xs,e1,.inl (.inl e3),e4⟩
theorem Lk.rp(h:Lk K H F as v d)(hn:jz d=true):Rp K F as v d:=by
 rcases h with h | ⟨a,xs,ds',e1,rfl,e3,e4⟩
 ·exact h
 ·cases hn
theorem Sv.rp(h:Sv K H F as v d)(hn:jz d=true):Rp K F as v d:=by
 rcases h with h | ⟨a,xs,ds',e1,rfl,e3,e4⟩
 ·exact h
 ·cases hn
theorem Ow.sv{N:Addr->Prop}(h:Ow K N H F as v d):Sv K H F as v d:=by
 rcases h with⟨_,h⟩ | ⟨a,xs,ds,e1,e2,e3,e4,e5,e6,e7⟩
 ·exact .inl h
 ·exact .inr ⟨a,xs,ds,e1,e2,e3,e5,e7⟩
theorem Gr.lay{p:Addr}{o:HO}(hp:H p=none):Gr H F as (upd H p o) F as :=
 ⟨λ_ _ _ _ _=>rfl,Same.refl F,⟨[],by simp,λ_ h=>nomatch h⟩,λa o' e _ _=>by rw[aK (bT e hp)];exact e,λa e=>by
  by_cases h:a=p
  ·subst h;exact hp
  ·rwa [aK h] at e,λa o' u e=>by rw[aK (bT e hp)];exact e⟩
theorem ObR.keep{a:Addr}{o:Ob}(h:ObR K mg H F as a o)(hH:H' a=H a)(e:Same F F')(ea:∀(n:Nat) (a:Addr),as[n]?=some a->as'[n]?=some a):ObR K mg H' F' as' a o:=by
 cases o with
 |ins c fs =>
  obtain⟨C,dx,gs,h1,h2,h3,h4⟩:=h;exact⟨C,dx,gs,h1,by rw[hH];exact h2,h3,Rps.mono e ea _ h4⟩
 |ml ds =>
  obtain⟨xs,h1,h2⟩:=h;exact⟨xs,by rw[hH];exact h1,Rps.mono e ea _ h2⟩
 |dt kvs =>
  obtain⟨xs,h1,h2,h3⟩:=h;exact⟨xs,by rw[hH];exact h1,h2,Rps.mono e ea _ h3⟩
 |df kvs =>
  obtain⟨o,xs,h1,h2,h3⟩:=h;exact⟨o,xs,by rw[hH];exact h1,h2,Rps.mono e ea _ h3⟩
theorem RlO.at{n:Nat}{a:Addr}{o:Ob}(r:RlO K mg O H F as)(ha:as[n]?=some a)(ho:O[n]?=some o):H a≠none:=by
 have q:=r.ob n a o ha ho
 cases o with
 |ins c fs=>obtain⟨C,dx,gs,h1,h2,_⟩:=q;rw[h2];exact λz=>nomatch z
 |ml ds=>obtain⟨xs,h1,_⟩:=q;rw[h1];exact λz=>nomatch z
 |dt kvs=>obtain⟨xs,h1,_⟩:=q;rw[h1];exact λz=>nomatch z
 |df kvs=>obtain⟨o,xs,h1,_⟩:=q;rw[h1];exact λz=>nomatch z
theorem RlO.all{a:Addr}(r:RlO K mg O H F as)(ha:a∈as):H a≠none:=by
 obtain⟨n,hn,e⟩:=List.mem_iff_getElem.mp ha
 have hO:n<O.length:=by rw[<-r.len];exact hn
 exact r.at (n:=n) (by rw[zg hn,e]) (zg hO)
theorem RlO.lay{p:Addr}{o:HO}(r:RlO K mg O H F as)(hp:H p=none):RlO K mg O (upd H p o) F as:=by
 refine⟨λa u e=>?_,r.fd,r.nd,r.len,r.fa,λn a u ha hu=>(r.ob n a u ha hu).keep (aK ?_) (Same.refl F) λ_ _ h=>h⟩
 ·have q:=r.fh a u e;rw[aK (bT q hp)];exact q
 ·intro z;subst z;exact r.at ha hu hp
theorem Gr.frz{p:Addr}{o:HO}(hp:H p=none)(g:Gr H F as H' F' as')(hf:F' p=none):Gr H F as H' (upd F' p o) as' :=
 ⟨λa o' ha hn hd=>by rw[aK (λz=>by subst z;rw[hp] at ha;cases ha)];exact g.fz a o' ha hn hd,λa u e=>by
  have q:=g.ff a u e
  rw[aK (bT q hf)];exact q,g.nw,g.fr,g.dm,g.kz⟩
theorem RlO.frz{p:Addr}{o:HO}(r:RlO K mg O H F as)(hp:H p=some o)(hf:F p=none)(ha:p∉as)(hd:isD o=true):RlO K mg O H (upd F p o) as:=by
 have ff:Same F (upd F p o):=λa u e=>by rw[aK (bT e hf)];exact e
 refine⟨λa u e=>?_,λa u e=>?_,r.nd,r.len,λa h=>?_,λn a u h1 h2=>(r.ob n a u h1 h2).keep rfl ff λ_ _ h=>h⟩
 ·by_cases h:a=p
  ·subst h;rw[bJ] at e;cases e;exact hp
  ·rw[aK h] at e;exact r.fh a u e
 ·by_cases h:a=p
  ·subst h;rw[bJ] at e;cases e;exact hd
  ·rw[aK h] at e;exact r.fd a u e
 ·rw[aK (λz=>by subst z;exact ha h)];exact r.fa a h
end
abbrev RR:=(Addr->Prop)->Hp->Hp->List Addr->V->D->Prop
def rV(K:Frag):RR:=λ_ _ F as v d=>Rp K F as v d
def rS(K:Frag):RR:=λ_ H F as v d=>Sv K H F as v d
def rO(K:Frag):RR:=λN H F as v d=>Ow K N H F as v d
def rA(K:Frag):Md->RR
 | .v=>rV K
 | _=>rS K
def gD(R:RR):Prop:=∀(N N':Addr->Prop) (H F:Hp) (as:List Addr) (v:V) (d:D),(∀a,N a->N' a)->R N H F as v d->R N' H F as v d
theorem c7{K:Frag}:gD (rV K):=λ_ _ _ _ _ _ _ _ h=>h
theorem dG{K:Frag}:gD (rO K):=λN N' H F as v d hn h=>by
 rcases h with h | ⟨a,xs,ds,e1,e2,e3,e4,e5,e6,e7⟩
 ·exact .inl h
 ·exact .inr ⟨a,xs,ds,e1,e2,e3,e4,e5,hn a e6,e7⟩
def tM(K:Frag)(mg:Str->Option Value)(md:List Md)(P:Pt)(R:RR)(m:M D):TE:=λσ H Q =>
 ∃ρ O F as d O',RlO K mg O H F as/\SlO K md P ρ σ H F as/\m ρ O=.ok d O' /\
  ∀v H' F' as',Gr H F as H' F' as'->RlO K mg O' H' F' as'->R (λa=>H a=none) H' F' as' v d->Q v H'
def tMT(K:Frag)(mg:Str->Option Value)(md:List Md)(P:Pt)(m:M Bool):TT:=λσ H Q =>
 ∃ρ O F as b O',RlO K mg O H F as/\SlO K md P ρ σ H F as/\m ρ O=.ok b O' /\
  ∀H' F' as',Gr H F as H' F' as'->RlO K mg O' H' F' as'->Q b H'
def cW(K:Frag)(H F:Hp)(as:List Addr):List Md->List V->List D->Prop
 | [],[],[]=>True
 |m::ms,v::vs,d::ds=>rA K m (λ_=>True) H F as v d/\cW K H F as ms vs ds
 | _,_,_=>False
def tMA(K:Frag)(mg:Str->Option Value)(md:List Md)(P:Pt)(ms:List Md)(m:M (List D)):TA:=λσ H Q =>
 ∃ρ O F as ds O',RlO K mg O H F as/\SlO K md P ρ σ H F as/\m ρ O=.ok ds O' /\
  ∀vs H' F' as',Gr H F as H' F' as'->RlO K mg O' H' F' as'->cW K H' F' as' ms vs ds->Q vs H'
def XE(X:Cx)(md:List Md)(P:Pt)(R:RR)(e:Expr)(m:M D):Prop:=PE X e (tM X.K X.mg md P R m)
def VE(X:Cx)(md:List Md)(P:Pt)(e:Expr)(m:M D):Prop:=PE X e (tM X.K X.mg md P (rV X.K) m)
def SE(X:Cx)(md:List Md)(P:Pt)(e:Expr)(m:M D):Prop:=PE X e (tM X.K X.mg md P (rS X.K) m)
def OE(X:Cx)(md:List Md)(P:Pt)(e:Expr)(m:M D):Prop:=PE X e (tM X.K X.mg md P (rO X.K) m)
def TsE(X:Cx)(md:List Md)(P:Pt)(e:Expr)(m:M Bool):Prop:=PT X e (tMT X.K X.mg md P m)
def TwE(X:Cx)(md:List Md)(P:Pt)(e:Expr)(m:M Bool):Prop:=PW X e (tMT X.K X.mg md P m)
def AE(X:Cx)(md:List Md)(P:Pt)(ms:List Md)(es:List Expr)(m:M (List D)):Prop:=PA X es (tMA X.K X.mg md P ms m)
def ig(K:Frag)(mg:Str->Option Value)(md:List Md)(P:Pt)(R:RR)(D:Ends)(H F:Hp)(as:List Addr):Fl->Prop
 | .nx ρ' O'=>∀σ' H' F' as',GrS P H F as H' F' as'->RlO K mg O' H' F' as'->SlO K md P ρ' σ' H' F' as'->D.nx σ' H'
 | .bk ρ' O'=>∀σ' H' F' as',GrS P H F as H' F' as'->RlO K mg O' H' F' as'->SlO K md P ρ' σ' H' F' as'->D.bk σ' H'
 | .ct ρ' O'=>∀σ' H' F' as',GrS P H F as H' F' as'->RlO K mg O' H' F' as'->SlO K md P ρ' σ' H' F' as'->D.ct σ' H'
 | .rt d O'=>∀v H' F' as',GrS P H F as H' F' as'->RlO K mg O' H' F' as'->R (λa=>¬P a) H' F' as' v d->D.rt v H'
 | .ex _ _=>False
 | .no=>False
def tMS(K:Frag)(mg:Str->Option Value)(md:List Md)(P:Pt)(R:RR)(m:MS):TS:=λD σ H =>
 ∃ρ O F as,RlO K mg O H F as/\SlO K md P ρ σ H F as/\ig K mg md P R D H F as (m ρ O)
def VS(X:Cx)(md:List Md)(P:Pt)(R:RR)(st:Stmt)(m:MS):Prop:=PS X st (tMS X.K X.mg md P R m)
def VSs(X:Cx)(md:List Md)(P:Pt)(R:RR)(st:List Stmt)(m:MS):Prop:=PSs X st (tMS X.K X.mg md P R m)
section
variable {X:Cx}{md:List Md}{P:Pt}{R:RR}
theorem PE.imp{e:Expr}{t t':TE}(h:PE X e t)(k:∀σ H Q,t' σ H Q->t σ H Q):PE X e t':=λpins s σ H Q I q=>h pins s σ H Q I (k σ H Q q)
theorem PT.imp{e:Expr}{t t':TT}(h:PT X e t)(k:∀σ H Q,t' σ H Q->t σ H Q):PT X e t':=λpins s σ H Q I q=>h pins s σ H Q I (k σ H Q q)
theorem PW.imp{e:Expr}{t t':TT}(h:PW X e t)(k:∀σ H Q,t' σ H Q->t σ H Q):PW X e t':=λw pins s σ H Q I q=>h w pins s σ H Q I (k σ H Q q)
theorem PA.imp{e:List Expr}{t t':TA}(h:PA X e t)(k:∀σ H Q,t' σ H Q->t σ H Q):PA X e t':=λpos pins s σ H Q I q=>h pos pins s σ H Q I (k σ H Q q)
theorem PS.imp{e:Stmt}{t t':TS}(h:PS X e t)(k:∀D σ H,t' D σ H->t D σ H):PS X e t':=λpins s σ H D I q=>h pins s σ H D I (k D σ H q)
theorem PSs.imp{e:List Stmt}{t t':TS}(h:PSs X e t)(k:∀D σ H,t' D σ H->t D σ H):PSs X e t':=λpins s σ H D I q=>h pins s σ H D I (k D σ H q)
def aa(i:Nat):M D:=λρ O=>match ρ[i]? with
 |some (some d)=>.ok d O
 | _=>.no
def mC(d:D):M D:=λ_ O=>.ok d O
def mG(m:M D):M D:=λρ O=>match m ρ O with
 | .ok d O'=>if jz d=true then .ok d O' else .no
 |r=>r
theorem tU{i:Nat}{ρ:az}{O O':ao}{d:D}(h:aa i ρ O=.ok d O'):ρ[i]?=some (some d)/\O'=O:=by
 unfold aa at h;split at h
 ·rename_i d' e;cases h;exact⟨e,rfl⟩
 ·cases h
theorem SJ{m:M D}{ρ:az}{O O':ao}{d:D}(h:mG m ρ O=.ok d O'):m ρ O=.ok d O'/\jz d=true:=by
 unfold mG at h;split at h
 ·rename_i d' O1 e;split at h
  ·rename_i hn;cases h;exact⟨e,hn⟩
  ·cases h
 ·rename_i hne;exact absurd h (hne _ _)
theorem SlO.get{K:Frag}{ρ:az}{σ:St}{H F:Hp}{as:List Addr}{i:Nat}{d:D}(s:SlO K md P ρ σ H F as)(h:ρ[i]?=some (some d)):∃m v,md[i]?=some m/\σ[i]?=some (some v)/\iH P K H F as m v d:=by
 have hi:i<md.length:=by rw[<-s.len'];exact(zh.mp h).1
 obtain⟨v,h1,h2⟩:=s.sl i md[i] d (zg hi) h;exact⟨_,v,zg hi,h1,h2⟩
theorem iH.sv{K:Frag}{H F:Hp}{as:List Addr}{m:Md}{v:V}{d:D}(h:iH P K H F as m v d):Sv K H F as v d:=by
 cases m with
 |v=>exact .inl h
 |s =>
  rcases h with h | ⟨a,xs,ds,e1,e2,e3,e4,e5,e6⟩
  ·exact .inl h
  ·exact .inr ⟨a,xs,ds,e1,e2,e3,e4,e6⟩
 |o =>
  rcases h with⟨_,h⟩ | ⟨a,xs,ds,e1,e2,e3,e0,e4,e5,e6⟩
  ·exact .inl h
  ·exact .inr ⟨a,xs,ds,e1,e2,e3,e4,e6⟩
theorem aG(i:Nat){x:Str}{pos:Pos}(hN:X.N[i]?=some x:=by rfl)(hv:Vis X.env.scope x:=by first | exact Or.inl rfl | exact Or.inr (Or.inl rfl) | exact Or.inr (Or.inr rfl))
  (hd:(x == ("__debug__":Str))=false:=by decide) (hcd:(x == ("__classdict__":Str))=false:=by decide):SE X md P (.Name x pos) (aa i):=by
 refine(lR (i:=i) hN hv hd hcd).imp λσ H Q h=>?_
 obtain⟨ρ,O,F,as,d,O',r,s,e,k⟩:=h;obtain⟨e1,rfl⟩:=tU e;obtain⟨m,v,h1,h2,h3⟩:=s.get e1;exact⟨v,h2,k v H F as Gr.refl r h3.sv⟩
theorem aA(i:Nat){x:Str}{pos:Pos}(hm:md[i]?=some .v:=by rfl)(hN:X.N[i]?=some x:=by rfl)(hv:Vis X.env.scope x:=by first | exact Or.inl rfl | exact Or.inr (Or.inl rfl) | exact Or.inr (Or.inr rfl))
  (hd:(x == ("__debug__":Str))=false:=by decide) (hcd:(x == ("__classdict__":Str))=false:=by decide):VE X md P (.Name x pos) (aa i):=by
 refine(lR (i:=i) hN hv hd hcd).imp λσ H Q h=>?_
 obtain⟨ρ,O,F,as,d,O',r,s,e,k⟩:=h;obtain⟨e1,rfl⟩:=tU e;obtain⟨v,h2,h3⟩:=s.sl i .v d hm e1;exact⟨v,h2,k v H F as Gr.refl r h3⟩
theorem aq{e:Expr}{m:M D}(h:VE X md P e m):SE X md P e m:=h.imp λσ H Q q=>by
 obtain⟨ρ,O,F,as,d,O',r,s,e,k⟩:=q;exact⟨ρ,_,F,as,_,_,r,s,e,λv H' F' as' g r' hv=>k v H' F' as' g r' (.inl hv)⟩
theorem aL{e:Expr}{m:M D}(h:OE X md P e m):SE X md P e m:=h.imp λσ H Q q=>by
 obtain⟨ρ,O,F,as,d,O',r,s,e,k⟩:=q;exact⟨ρ,_,F,as,_,_,r,s,e,λv H' F' as' g r' hv=>k v H' F' as' g r' (Ow.sv hv)⟩
theorem dY{e:Expr}{m:M D}(h:SE X md P e m):VE X md P e (mG m):=h.imp λσ H Q q=>by
 obtain⟨ρ,O,F,as,d,O',r,s,e,k⟩:=q;obtain⟨e,hn⟩:=SJ e;exact⟨ρ,_,F,as,_,_,r,s,e,λv H' F' as' g r' hv=>k v H' F' as' g r' (Sv.rp hv hn)⟩
theorem bc{e:Expr}{m:M D}(h:OE X md P e m):VE X md P e m:=h.imp λσ H Q q=>by
 obtain⟨ρ,O,F,as,d,O',r,s,e,k⟩:=q;refine⟨ρ,_,F,as,_,_,r,s,e,λv H' F' as' g r' hv=>?_⟩
 rcases hv with⟨_,hv⟩ | ⟨a,xs,ds,rfl,rfl,e3,e4,e5,e6,e7⟩
 ·exact k v H' F' as' g r' hv
 ·have ff:Same F' (upd F' a (.lst xs)):=λb u q=>by rw[aK (bT q e4)];exact q
  refine k _ H' (upd F' a (.lst xs)) as' (g.frz e6 e4) (r'.frz e3 e4 e5 rfl) (Rp.mkL (.inl (.inl bJ)) (Rps.mono ff (λ_ _ z=>z) _ e7))
theorem pW{e:Expr}{v:V}{d:D}(h:PE X e (tC v))(hd:∀K F as,Rp K F as v d):VE X md P e (mC d):=h.imp λσ H Q q=>by
 obtain⟨ρ,O,F,as,d,O',r,s,e,k⟩:=q;cases e;exact k v H F as Gr.refl r (hd _ _ _)
theorem aF{i:Int}{j pos}:VE X md P (.Constant (.int i) j pos) (mC (.int i)):=pW MT λ_ _ _=>Rp.int
theorem gG{b:Bool}{j pos}:VE X md P (.Constant (.bool b) j pos) (mC (.bl b)):=pW M4 λ_ _ _=>Rp.bl
theorem xD{j pos}:VE X md P (.Constant .none j pos) (mC .non):=pW M5 λ_ _ _=>Rp.non
theorem dM{x:Str}{j pos}(l:List Nat)(hx:x=S l:=by decide +kernel):VE X md P (.Constant (.str x) j pos) (mC (.str l)):=pW M6 λ_ _ _=>by rw[hx];exact Rp.str
theorem jT{x:Str}{v:V}{d:D}{pos:Pos}(h:∃u,X.mg x=some u/\RelV v u)(hd:∀K F as,Rp K F as v d)(hg:Gl X x:=by rfl)(hdb:(x == ("__debug__":Str))=false:=by decide):VE X md P (.Name x pos) (mC d):=pW (Gi h hg hdb) hd
def au:M (List D):=λ_ O=>.ok [] O
def ak(m:M D)(r:M (List D)):M (List D):=λρ O=>(m ρ O).bind λd O1=>(r ρ O1).bind λds O2=>.ok (d::ds) O2
theorem aH:AE X md P [] [] au:=jw.imp λσ H Q q=>by
 obtain⟨ρ,O,F,as,d,O',r,s,e,k⟩:=q;cases e;exact k [] H F as Gr.refl r trivial
theorem rA.gr{K:Frag}{m:Md}{N:Addr->Prop}{H F H' F':Hp}{as as':List Addr}{v:V}{d:D}(h:rA K m N H F as v d)(g:Gr H F as H' F' as'):rA K m (λ_=>True) H' F' as' v d:=by
 cases m with
 |v=>exact Rp.gr (show Rp K F as v d from h) g
 |s=>exact Sv.gr (show Sv K H F as v d from h) g
 |o=>exact Sv.gr (show Sv K H F as v d from h) g
theorem cW.gr{K:Frag}{H F H' F':Hp}{as as':List Addr}(g:Gr H F as H' F' as'):∀{ms:List Md}{vs:List V}{ds:List D},cW K H F as ms vs ds->cW K H' F' as' ms vs ds
 | [],[],[],_=>trivial
 |m::ms,v::vs,d::ds,h=>⟨rA.gr h.1 g,cW.gr g h.2⟩
 | [],[],_::_,h=>h.elim
 | [],_::_,[],h=>h.elim
 | [],_::_,_::_,h=>h.elim
 | _::_,[],[],h=>h.elim
 | _::_,[],_::_,h=>h.elim
 | _::_,_::_,[],h=>h.elim
theorem Gp(md0:Md){e:Expr}{es:List Expr}{m:M D}{ms:List Md}{r:M (List D)}(h:XE X md P (rA X.K md0) e m)(hr:AE X md P ms es r)
  (hs:starEach (e::es) X.env=(false,eval e X.env)::starEach es X.env:=by exact cD rfl):AE X md P (md0::ms) (e::es) (ak m r):=(gZ h hr hs).imp λσ H Q q=>by
 obtain⟨ρ,O,F,as,d,O',r0,s,e,k⟩:=q;obtain⟨d,O1,e1,e⟩:=Res.bind_ok e;obtain⟨ds',O2,e2,e⟩:=Res.bind_ok e;cases e;refine⟨ρ,_,F,as,_,_,r0,s,e1,λv H1 F1 as1 g1 r1 hv=>?_⟩;refine⟨ρ,_,F1,as1,_,_,r1,s.step g1,e2,λvs H2 F2 as2 g2 r2 hvs=>?_⟩;exact k (v::vs) H2 F2 as2 (g1.trans g2) r2 ⟨rA.gr hv g2,hvs⟩
theorem bH{e:Expr}{es:List Expr}{m:M D}{ms:List Md}{r:M (List D)}(h:VE X md P e m)(hr:AE X md P ms es r)
  (hs:starEach (e::es) X.env=(false,eval e X.env)::starEach es X.env:=by exact cD rfl):AE X md P (.v::ms) (e::es) (ak m r):=Gp .v h hr hs
theorem aD{e:Expr}{es:List Expr}{m:M D}{ms:List Md}{r:M (List D)}(h:SE X md P e m)(hr:AE X md P ms es r)
  (hs:starEach (e::es) X.env=(false,eval e X.env)::starEach es X.env:=by exact cD rfl):AE X md P (.s::ms) (e::es) (ak m r):=Gp .s h hr hs
theorem cW.rps{K:Frag}{H F:Hp}{as:List Addr}:∀{n:Nat}{vs:List V}{ds:List D},cW K H F as (List.replicate n .v) vs ds->Rps K F as vs ds
 | 0,[],[],_=>Rps.nil
 |n+1,v::vs,d::ds,h=>by
  rw[List.replicate_succ] at h;exact Rps.cons h.1 (cW.rps h.2)
 | 0,[],_::_,h=>h.elim
 | 0,_::_,[],h=>h.elim
 | 0,_::_,_::_,h=>h.elim
 |n+1,[],[],h=>h.elim
 |n+1,[],_::_,h=>h.elim
 |n+1,_::_,[],h=>h.elim
def bK(r:M (List D)):M D:=λρ O=>(r ρ O).bind λds O1=>if ds.length<=1000000 then .ok (.lst ds) O1 else .no
def bU(r:M (List D)):M D:=λρ O=>(r ρ O).bind λds O1=>if ds.length<=1000000 then .ok (.tup ds) O1 else .no
theorem fQ{n:Nat}(h:n<=1000000):n<=sizeLine:=zG h (by decide)
theorem eX{es:List Expr}{pos:Pos}{r:M (List D)}(n:Nat)(h:AE X md P (List.replicate n .v) es r):OE X md P (.List es pos) (bK r):=(Qw h).imp λσ H Q q=>by
 obtain⟨ρ,O,F,as,d,O',r0,s,e,k⟩:=q;obtain⟨ds,O1,e1,e⟩:=Res.bind_ok e;split at e
 ·rename_i hz;cases e;refine⟨ρ,_,F,as,_,_,r0,s,e1,λvs H1 F1 as1 g1 r1 hv=>?_⟩;have hr:=hv.rps;refine⟨by rw[hr.length];exact fQ hz,λp hp=>?_⟩
  have hF:F1 p=none:=by
   cases q:F1 p with
   |none=>rfl
   |some o=>rw[r1.fh p o q] at hp;cases hp
  refine k _ _ F1 as1 (g1.trans (Gr.lay hp)) (r1.lay hp) (.inr ⟨p,vs,ds,rfl,rfl,bJ,hF,λz=>r1.all z hp,g1.dm p hp,hr⟩)
 ·cases e
theorem fK{es:List Expr}{pos:Pos}{x1}{r:M (List D)}(n:Nat)(h:AE X md P (List.replicate n .v) es r):VE X md P (.Tuple es x1 pos) (bU r):=(Qv h).imp λσ H Q q=>by
 obtain⟨ρ,O,F,as,d,O',r0,s,e,k⟩:=q;obtain⟨ds,O1,e1,e⟩:=Res.bind_ok e;split at e
 ·rename_i hz;cases e;refine⟨ρ,_,F,as,_,_,r0,s,e1,λvs H1 F1 as1 g1 r1 hv=>?_⟩;have hr:=hv.rps;refine⟨by rw[hr.length];exact fQ hz,λp hp=>?_⟩
  have hF:F1 p=none:=by
   cases q:F1 p with
   |none=>rfl
   |some o=>rw[r1.fh p o q] at hp;cases hp
  have ff:Same F1 (upd F1 p (.tup vs)):=λb u q=>by rw[aK (bT q hF)];exact q
  refine k _ _ (upd F1 p (.tup vs)) as1 ((g1.trans (Gr.lay hp)).frz (g1.dm p hp) hF) ((r1.lay hp).frz bJ hF (λz=>r1.all z hp) rfl) (Rp.mkT (.inl bJ) (Rps.mono ff (λ_ _ z=>z) _ hr))
 ·cases e
def rD(K:Frag)(mg:Str->Option Value)(g:D->D->Option D):R2:=λx y H Q=>∃O F as dx dy d,RlO K mg O H F as/\Lk K H F as x dx/\Lk K H F as y dy/\g dx dy=some d /\
 ∀v' H' F',Gr H F as H' F' as->RlO K mg O H' F' as->Ow K (λa=>H a=none) H' F' as v' d->Q v' H'
abbrev OpD(X:Cx)(f:Value->Value->Sem Value)(g:D->D->Option D):Prop:=OpR X f (rD X.K X.mg g)
def aj(g:D->D->Option D)(ma mb:M D):M D:=λρ O=>(ma ρ O).bind λx O1=>(mb ρ O1).bind λy O2=>match g (aZ O2 x) (aZ O2 y) with
 |some d=>.ok d O2
 |none=>.no
theorem xE{K:Frag}{mg:Str->Option Value}{g:D->D->Option D}{ma mb:M D}{σ:St}{H:Hp}{Q:VK}(h:tM K mg md P (rO K) (aj g ma mb) σ H Q):tOp (rD K mg g) (tM K mg md P (rS K) ma) (tM K mg md P (rS K) mb) σ H Q:=by
 obtain⟨ρ,O,F,as,d,O',r,sl,e,k⟩:=h;obtain⟨x,O1,e1,e⟩:=Res.bind_ok e;obtain⟨y,O2,e2,e⟩:=Res.bind_ok e;split at e
 ·rename_i d' hg;cases e;refine⟨ρ,_,F,as,_,_,r,sl,e1,λv H1 F1 as1 g1 r1 hv=>?_⟩;refine⟨ρ,_,F1,as1,_,_,r1,sl.step g1,e2,λu H2 F2 as2 g2 r2 hu=>?_⟩;refine⟨_,F2,as2,_,_,_,r2,Sv.lk (Sv.gr hv g2) r2,Sv.lk hu r2,hg,λv' H' F' g' r' hw=>?_⟩;exact k v' H' F' as2 ((g1.trans g2).trans g') r' (dG _ _ _ _ _ _ _ (λa ha=>(g1.trans g2).dm a ha) hw)
 ·cases e
theorem aP{e1 e2:Expr}{pos:Pos}{op:Operator}{g:D->D->Option D}{ma mb:M D}(ho:OpD X (binaryOp op) g)(ha:SE X md P e1 ma)(hb:SE X md P e2 mb):OE X md P (.BinOp e1 op e2 pos) (aj g ma mb):=
 (O8 ho ha hb).imp λ_ _ _=>xE
theorem iI{e1 e2:Expr}{pos:Pos}{op:CmpOp}{g:D->D->Option D}{ma mb:M D}(ho:OpD X (compareOp op) g)(ha:SE X md P e1 ma)(hb:SE X md P e2 mb)(hm:behindInMarks op e2=false):OE X md P (.Compare e1 [op] [e2] pos) (aj g ma mb):=
 (Eu ho ha hb hm).imp λ_ _ _=>xE
def aQ(m:M D):M Bool:=λρ O=>(m ρ O).bind λd O1=>match d with
 | .bl b=>.ok b O1
 | _=>.no
theorem pX{K:Frag}{mg:Str->Option Value}{m:M D}{σ:St}{H:Hp}{Q:Bool->Hp->Prop}(h:tMT K mg md P (aQ m) σ H Q):sW (tM K mg md P (rO K) m) σ H Q:=by
 obtain⟨ρ,O,F,as,d,O',r,sl,e,k⟩:=h;obtain⟨d,O1,e1,e⟩:=Res.bind_ok e
 cases d with
 |bl c =>
  cases e;refine⟨ρ,_,F,as,_,_,r,sl,e1,λv H1 F1 as1 g1 r1 hv=>?_⟩
  rcases hv with⟨_,hv⟩ | ⟨a,xs,ds,_,e2,_⟩
  ·exact⟨_,hv.unB,k H1 F1 as1 g1 r1⟩
  ·cases e2
 | _=>cases e
theorem dq{e1 e2:Expr}{pos:Pos}{op:CmpOp}{g:D->D->Option D}{ma mb:M D}(ho:OpD X (compareOp op) g)(ha:SE X md P e1 ma)(hb:SE X md P e2 mb)(hm:behindInMarks op e2=false):TsE X md P (.Compare e1 [op] [e2] pos) (aQ (aj g ma mb)):=
 (Ew ho ha hb hm).imp λσ H Q h=>by
  have q:=pX h;exact xE q
def pY(g g':D->D->Option D)(ma mb mc:M D):M D:=λρ O=>(ma ρ O).bind λx O1=>(mb ρ O1).bind λy O2=>match g (aZ O2 x) (aZ O2 y) with
 |some (.bl true)=>(mc ρ O2).bind λz O3=>match g' (aZ O3 y) (aZ O3 z) with
  |some d=>.ok d O3
  |none=>.no
 |some (.bl false)=>.ok (.bl false) O2
 | _=>.no
theorem SM{K:Frag}{mg:Str->Option Value}{g g':D->D->Option D}{ma mb mc:M D}{σ:St}{H:Hp}{Q:VK}(h:tM K mg md P (rO K) (pY g g' ma mb mc) σ H Q):
  Ex (rD K mg g) (rD K mg g') (tM K mg md P (rS K) ma) (tM K mg md P (rS K) mb) (tM K mg md P (rS K) mc) σ H Q:=by
 obtain⟨ρ,O,F,as,d,O',r,sl,e,k⟩:=h;obtain⟨x,O1,e1,e⟩:=Res.bind_ok e;obtain⟨y,O2,e2,e⟩:=Res.bind_ok e;refine⟨ρ,_,F,as,_,_,r,sl,e1,λv H1 F1 as1 g1 r1 hv=>?_⟩;refine⟨ρ,_,F1,as1,_,_,r1,sl.step g1,e2,λu H2 F2 as2 g2 r2 hu=>?_⟩;split at e
 ·rename_i hg;obtain⟨z,O3,e3,e⟩:=Res.bind_ok e;refine⟨_,F2,as2,_,_,_,r2,Sv.lk (Sv.gr hv g2) r2,Sv.lk hu r2,hg,λv' H' F' g' r' hw=>?_⟩
  rcases hw with⟨_,hw⟩ | ⟨a,xs,ds,_,z,_⟩
  ·refine⟨true,hw.unB,?_⟩;rw[if_pos rfl];split at e
   ·rename_i d' hg';cases e;have g3:=(g1.trans g2).trans g';refine⟨ρ,_,F',as2,_,_,r',sl.step g3,e3,λw H4 F4 as4 g4 r4 hz=>?_⟩;refine⟨_,F4,as4,_,_,_,r4,Sv.lk (Sv.gr (Sv.gr hu g') g4) r4,Sv.lk hz r4,hg',λv5 H5 F5 g5 r5 hw5=>?_⟩;exact k v5 H5 F5 as4 ((g3.trans g4).trans g5) r5 (dG _ _ _ _ _ _ _ (λa ha=>(g3.trans g4).dm a ha) hw5)
   ·cases e
  ·cases z
 ·rename_i hg;cases e;refine⟨_,F2,as2,_,_,_,r2,Sv.lk (Sv.gr hv g2) r2,Sv.lk hu r2,hg,λv' H' F' g' r' hw=>?_⟩
  rcases hw with⟨_,hw⟩ | ⟨a,xs,ds,_,z,_⟩
  ·refine⟨false,hw.unB,?_⟩;rw[if_neg zk];exact k _ H' F' as2 ((g1.trans g2).trans g') r' (.inl ⟨rfl,Rp.bl⟩)
  ·cases z
 ·cases e
theorem SN{a b c:Expr}{pos:Pos}{op op':CmpOp}{g g':D->D->Option D}{ma mb mc:M D}(ho:OpD X (compareOp op) g)(ho':OpD X (compareOp op') g')(ha:SE X md P a ma)(hb:SE X md P b mb)(hc:SE X md P c mc)
  (hm:lastMarks [op,op'] [b,c]=false:=by with_unfolding_all rfl):TsE X md P (.Compare a [op,op'] [b,c] pos) (aQ (pY g g' ma mb mc)):=(PK ho ho' ha hb hc hm).imp λ_ _ _ h=>SM (pX h)
def isNon:D->Bool
 | .non=>true
 | _=>false
def jA(m:M D):M D:=λρ O=>(m ρ O).bind λd O1=>.ok (.bl (isNon d)) O1
def iJ(m:M D):M D:=λρ O=>(m ρ O).bind λd O1=>.ok (.bl (!isNon d)) O1
theorem Sv.isN{K:Frag}{H F:Hp}{as:List Addr}{v:V}{d:D}(h:Sv K H F as v d):decide (v=.non)=isNon d:=by
 rcases h with h | ⟨a,xs,ds,rfl,rfl,_⟩
 ·cases d with
  |non=>rw[h.unN];rfl
  |bl b=>rw[h.unB];rfl
  |int b=>rw[h.unI];rfl
  |str b=>rw[h.unS];rfl
  |lst b=>obtain⟨a,xs,rfl,_⟩:=h.unL;rfl
  |tup b=>obtain⟨a,xs,rfl,_⟩:=h.unT;rfl
  |dic k b=>obtain⟨a,xs,rfl,_⟩:=h.unD;rfl
  |ob b=>obtain⟨a,rfl,_⟩:=h.unO;rfl
 ·rfl
theorem SQ{K:Frag}{mg:Str->Option Value}{m:M D}{σ:St}{H:Hp}{Q:VK}(h:tM K mg md P (rO K) (jA m) σ H Q):DY (tM K mg md P (rS K) m) σ H Q:=by
 obtain⟨ρ,O,F,as,d,O',r,sl,e,k⟩:=h;obtain⟨x,O1,e1,e⟩:=Res.bind_ok e;cases e;refine⟨ρ,_,F,as,_,_,r,sl,e1,λv H1 F1 as1 g1 r1 hv=>?_⟩;dsimp only;rw[Sv.isN hv];exact k _ H1 F1 as1 g1 r1 (.inl ⟨rfl,Rp.bl⟩)
theorem SX{K:Frag}{mg:Str->Option Value}{m:M D}{σ:St}{H:Hp}{Q:VK}(h:tM K mg md P (rO K) (iJ m) σ H Q):Ea (tM K mg md P (rS K) m) σ H Q:=by
 obtain⟨ρ,O,F,as,d,O',r,sl,e,k⟩:=h;obtain⟨x,O1,e1,e⟩:=Res.bind_ok e;cases e;refine⟨ρ,_,F,as,_,_,r,sl,e1,λv H1 F1 as1 g1 r1 hv=>?_⟩;dsimp only;rw[Sv.isN hv];exact k _ H1 F1 as1 g1 r1 (.inl ⟨rfl,Rp.bl⟩)
theorem Gq{t t':TE}{σ:St}{H:Hp}{Q:Bool->Hp->Prop}(h:∀Q',t σ H Q'->t' σ H Q')(q:sW t σ H Q):tB t' σ H Q:=h _ q
theorem xF{a:Expr}{pos pos':Pos}{j}{m:M D}(h:SE X md P a m):TsE X md P (.Compare a [.Is] [.Constant .none j pos'] pos) (aQ (jA m)):=(Eb (Nb h)).imp λ_ _ _ q=>Gq (λ_=>SQ) (pX q)
theorem Gs{a:Expr}{pos pos':Pos}{j}{m:M D}(h:SE X md P a m):TsE X md P (.Compare a [.IsNot] [.Constant .none j pos'] pos) (aQ (iJ m)):=(Eb (Nf h)).imp λ_ _ _ q=>Gq (λ_=>SX) (pX q)
def nG:D->Option Bool
 | .non=>some false
 | .bl b=>some b
 | .int i=>some (i != 0)
 | .str l=>if l.length<=1000000 then some (!l.isEmpty) else none
 | .lst ds=>some (!ds.isEmpty)
 | .tup ds=>some (!ds.isEmpty)
 | .dic ks _=>some (!ks.isEmpty)
 | .ob _=>none
def bZ(m:M D):M Bool:=λρ O=>(m ρ O).bind λd O1=>match nG (aZ O1 d) with
 |some b=>.ok b O1
 |none=>.no
theorem Gu{α β:Type}{xs:List α}{ys:List β}(h:xs.length=ys.length):(!xs.isEmpty) = !ys.isEmpty:=by
 cases xs<;>cases ys<;>simp_all
theorem Lk.tru{K:Frag}{H F:Hp}{as:List Addr}{v:V}{d:D}{b:Bool}(h:Lk K H F as v d)(fh:Same F H)(e:nG d=some b):wN K v H b:=by
 cases d with
 |non=>rw[(h.rp rfl).unN];cases e;rfl
 |bl b=>rw[(h.rp rfl).unB];cases e;rfl
 |int b=>rw[(h.rp rfl).unI];cases e;rfl
 |str l =>
  rw[(h.rp rfl).unS];simp only[nG] at e;split at e
  ·rename_i hl;cases e;refine⟨by rw[gw];exact fQ hl,?_⟩;rw[gw]
   cases l with
   |nil=>rfl
   |cons c l =>
    have:((((c::l).length:Nat):Int) != 0)=true:=by
     rw[bne_iff_ne,zE];omega
    rw[this];rfl
  ·cases e
 |lst ds =>
  obtain⟨a,xs,rfl,h1,h2⟩:=h.list fh;cases e;exact .inl ⟨xs,h1.sq,(Gu h2.length).symm⟩
 |tup ds =>
  obtain⟨a,xs,rfl,h1,h2⟩:=(h.rp rfl).unT;cases e;exact .inr (.inl ⟨xs,Same.seqT fh h1,(Gu h2.length).symm⟩)
 |dic ks vs =>
  obtain⟨a,kvs,rfl,h1,rfl,h2⟩:=(h.rp rfl).unD;cases e;exact .inr (.inr ⟨kvs,fh _ _ h1,by cases kvs<;>rfl⟩)
 |ob n=>cases e
theorem f9{a:Expr}{m:M D}(h:SE X md P a m)(he:∀whole,isTrue a X.env whole=(do let v <-whole;standAt a.pos;holding [v] (truthy v)):=by intro _;rfl):TsE X md P a (bZ m):=(PP h he).imp λσ H Q q=>by
 obtain⟨ρ,O,F,as,d,O',r,sl,e,k⟩:=q;obtain⟨d,O1,e1,e⟩:=Res.bind_ok e;split at e
 ·rename_i c hc;cases e;exact⟨ρ,_,F,as,_,_,r,sl,e1,λv H1 F1 as1 g1 r1 hv=>⟨_,Lk.tru (Sv.lk hv r1) r1.fh hc,k H1 F1 as1 g1 r1⟩⟩
 ·cases e
def lg(a b:M Bool):M Bool:=λρ O=>(a ρ O).bind λc O1=>if c=true then b ρ O1 else .ok false O1
def fL(a b:M Bool):M Bool:=λρ O=>(a ρ O).bind λc O1=>if c=true then .ok true O1 else b ρ O1
def fM(a:M Bool):M Bool:=λρ O=>(a ρ O).bind λc O1=>.ok (!c) O1
theorem S8{K:Frag}{mg:Str->Option Value}{ma mb:M Bool}{σ:St}{H:Hp}{Q:Bool->Hp->Prop}(h:tMT K mg md P (lg ma mb) σ H Q):Ec (tMT K mg md P ma) (tMT K mg md P mb) σ H Q:=by
 obtain⟨ρ,O,F,as,d,O',r,sl,e,k⟩:=h;obtain⟨c,O1,e1,e⟩:=Res.bind_ok e;refine⟨ρ,_,F,as,_,_,r,sl,e1,λH1 F1 as1 g1 r1=>?_⟩
 cases c with
 |true =>
  rw[if_pos rfl] at e ⊢;exact⟨ρ,_,F1,as1,_,_,r1,sl.step g1,e,λH2 F2 as2 g2 r2=>k H2 F2 as2 (g1.trans g2) r2⟩
 |false =>
  rw[if_neg zk] at e ⊢;cases e;exact k H1 F1 as1 g1 r1
theorem S9{K:Frag}{mg:Str->Option Value}{ma mb:M Bool}{σ:St}{H:Hp}{Q:Bool->Hp->Prop}(h:tMT K mg md P (fL ma mb) σ H Q):tOr (tMT K mg md P ma) (tMT K mg md P mb) σ H Q:=by
 obtain⟨ρ,O,F,as,d,O',r,sl,e,k⟩:=h;obtain⟨c,O1,e1,e⟩:=Res.bind_ok e;refine⟨ρ,_,F,as,_,_,r,sl,e1,λH1 F1 as1 g1 r1=>?_⟩
 cases c with
 |true =>
  rw[if_pos rfl] at e ⊢;cases e;exact k H1 F1 as1 g1 r1
 |false =>
  rw[if_neg zk] at e ⊢;exact⟨ρ,_,F1,as1,_,_,r1,sl.step g1,e,λH2 F2 as2 g2 r2=>k H2 F2 as2 (g1.trans g2) r2⟩
theorem Gv{a:Expr}{pos:Pos}{m:M Bool}(h:TsE X md P a m):TwE X md P (.BoolOp .And [a] pos) m:=Nh h
theorem tV{a:Expr}{pos:Pos}{m:M Bool}(h:TsE X md P a m):TwE X md P (.BoolOp .Or [a] pos) m:=Ni h
theorem Gw{a b:Expr}{rest:List Expr}{pos:Pos}{ma mb:M Bool}(ha:TsE X md P a ma)(hb:TwE X md P (.BoolOp .And (b::rest) pos) mb):TwE X md P (.BoolOp .And (a::b::rest) pos) (lg ma mb):=(Nj ha hb).imp λ_ _ _=>S8
theorem pZ{a b:Expr}{rest:List Expr}{pos:Pos}{ma mb:M Bool}(ha:TsE X md P a ma)(hb:TwE X md P (.BoolOp .Or (b::rest) pos) mb):TwE X md P (.BoolOp .Or (a::b::rest) pos) (fL ma mb):=(Nk ha hb).imp λ_ _ _=>S9
theorem nH{e:Expr}{m:M Bool}(h:TwE X md P e m):TsE X md P e m:=PW.pt h
theorem nJ{a:Expr}{pos:Pos}{m:M Bool}(h:TsE X md P a m):TsE X md P (.UnaryOp .Not a pos) (fM m):=(Nm h).imp λσ H Q q=>by
 obtain⟨ρ,O,F,as,d,O',r,sl,e,k⟩:=q;obtain⟨c,O1,e1,e⟩:=Res.bind_ok e;cases e;exact⟨ρ,_,F,as,_,_,r,sl,e1,k⟩
def ik(ma mb:M D):M D:=λρ O=>(ma ρ O).bind λd O1=>match d with
 | .bl true=>mb ρ O1
 | .bl false=>.ok (.bl false) O1
 | _=>.no
def Gx(ma mb:M D):M D:=λρ O=>(ma ρ O).bind λd O1=>match d with
 | .bl true=>.ok (.bl true) O1
 | .bl false=>mb ρ O1
 | _=>.no
def xG(ma:M D):M D:=λρ O=>(ma ρ O).bind λd O1=>match d with
 | .bl b=>.ok (.bl (!b)) O1
 | _=>.no
theorem qb{a:Expr}{pos:Pos}{op}{m:M D}(h:VE X md P a m):VE X md P (.BoolOp op [a] pos) m:=Nr h
theorem nM{a b:Expr}{rest:List Expr}{pos:Pos}{ma mb:M D}(ha:VE X md P a ma)(hb:VE X md P (.BoolOp .And (b::rest) pos) mb):VE X md P (.BoolOp .And (a::b::rest) pos) (ik ma mb):=(Nt ha hb).imp λσ H Q q=>by
 obtain⟨ρ,O,F,as,d,O',r,sl,e,k⟩:=q;obtain⟨x,O1,e1,e⟩:=Res.bind_ok e;refine⟨ρ,_,F,as,_,_,r,sl,e1,λv H1 F1 as1 g1 r1 hv=>?_⟩
 cases x with
 |bl c =>
  refine⟨c,Rp.unB hv,?_⟩
  cases c with
  |true =>
   rw[if_pos rfl];exact⟨ρ,_,F1,as1,_,_,r1,sl.step g1,e,λv2 H2 F2 as2 g2 r2 hv2=>k v2 H2 F2 as2 (g1.trans g2) r2 hv2⟩
  |false =>
   rw[if_neg zk];cases e;exact k _ H1 F1 as1 g1 r1 Rp.bl
 | _=>cases e
theorem Tc{a:Expr}{pos:Pos}{m:M D}(h:VE X md P a m):VE X md P (.UnaryOp .Not a pos) (xG m):=(Nu h).imp λσ H Q q=>by
 obtain⟨ρ,O,F,as,d,O',r,sl,e,k⟩:=q;obtain⟨x,O1,e1,e⟩:=Res.bind_ok e;refine⟨ρ,_,F,as,_,_,r,sl,e1,λv H1 F1 as1 g1 r1 hv=>?_⟩
 cases x with
 |bl c =>
  cases e;exact⟨c,Rp.unB hv,k _ H1 F1 as1 g1 r1 Rp.bl⟩
 | _=>cases e
def mIf(t:M Bool)(a b:M D):M D:=λρ O=>(t ρ O).bind λc O1=>if c=true then a ρ O1 else b ρ O1
theorem Td(hR:gD R){c a b:Expr}{pos:Pos}{mc:M Bool}{ma mb:M D}(hc:TsE X md P c mc)(ha:PE X a (tM X.K X.mg md P R ma))(hb:PE X b (tM X.K X.mg md P R mb)):PE X (.IfExp c a b pos) (tM X.K X.mg md P R (mIf mc ma mb)):=(Nv hc ha hb).imp λσ H Q q=>by
 obtain⟨ρ,O,F,as,d,O',r,sl,e,k⟩:=q;obtain⟨x,O1,e1,e⟩:=Res.bind_ok e;refine⟨ρ,_,F,as,_,_,r,sl,e1,λH1 F1 as1 g1 r1=>?_⟩
 cases x with
 |true =>
  rw[if_pos rfl] at e ⊢;exact⟨ρ,_,F1,as1,_,_,r1,sl.step g1,e,λv2 H2 F2 as2 g2 r2 hv2=>k v2 H2 F2 as2 (g1.trans g2) r2 (hR _ _ _ _ _ _ _ (λa ha=>g1.dm a ha) hv2)⟩
 |false =>
  rw[if_neg zk] at e ⊢;exact⟨ρ,_,F1,as1,_,_,r1,sl.step g1,e,λv2 H2 F2 as2 g2 r2 hv2=>k v2 H2 F2 as2 (g1.trans g2) r2 (hR _ _ _ _ _ _ _ (λa ha=>g1.dm a ha) hv2)⟩
theorem qd{c a b:Expr}{pos:Pos}{mc:M Bool}{ma mb:M D}(hc:TsE X md P c mc)(ha:VE X md P a ma)(hb:VE X md P b mb):VE X md P (.IfExp c a b pos) (mIf mc ma mb):=Td c7 hc ha hb
end
section
variable {K:Frag}{mg:Str->Option Value}{md:List Md}{P:Pt}{R:RR}{ρ:az}{σ:St}{H F H' F':Hp}{as as':List Addr}{O O':ao}
theorem SlO.set{i:Nat}{m:Md}{v:V}{d:D}(s:SlO K md P ρ σ H F as)(hm:md[i]?=some m)(hns:m≠.s)(hv:iH P K H F as m v d)
  (hj:∀(a:Addr) (ds:List D) (j:Nat) (es:List D),m=.o->v=.ref a->d=.lst ds->i≠j->md[j]?=some .o->ρ[j]?=some (some (.lst es))->σ[j]?≠some (some (.ref a))):SlO K md P (ρ.set i (some d)) (σ.set i (some v)) H F as:=by
 have hi:i<md.length:=(zh.mp hm).1;refine⟨by rw[zU];exact s.len,by rw[zU];exact s.len',s.pd,λj m' d' e1 e2=>?_,λj k a ds es h1 h2 h3 h4 h5 h6=>?_,λx hx=>?_⟩
 ·by_cases h:i=j
  ·subst h;rw[hm] at e1;cases e1;rw[zO (by rw[s.len'];exact hi)] at e2;cases e2;exact⟨v,zO (by rw[s.len];exact hi),hv⟩
  ·rw[zt h] at e2;rw[zt h];exact s.sl j m' d' e1 e2
 ·by_cases hij:i=j
  ·by_cases hik:i=k
   ·rw[<-hij,<-hik]
   ·exfalso
    subst hij;rw[hm] at h1;cases h1;rw[zO (by rw[s.len'];exact hi)] at h3;rw[zO (by rw[s.len];exact hi)] at h5;rw[zt hik] at h4 h6;cases h3;cases h5;exact hj a ds k es rfl rfl rfl hik h2 h4 h6
  ·by_cases hik:i=k
   ·exfalso
    subst hik;rw[hm] at h2;cases h2;rw[zO (by rw[s.len'];exact hi)] at h4;rw[zO (by rw[s.len];exact hi)] at h6;rw[zt hij] at h3 h5;cases h4;cases h6;exact hj a es j ds rfl rfl rfl hij h1 h3 h5
   ·rw[zt hij] at h3 h5;rw[zt hik] at h4 h6;exact s.inj j k a ds es h1 h2 h3 h4 h5 h6
 ·obtain⟨p1,p2,p3⟩:=s.pin x hx
  have hne:i≠x.1:=λz=>by
   rw[<-z,hm] at p1;exact hns (zx p1)
  exact⟨p1,by rw[zt hne];exact p2,by rw[zt hne];exact p3⟩
theorem SlO.setV{i:Nat}{v:V}{d:D}(s:SlO K md P ρ σ H F as)(hm:md[i]?=some .v)(hv:Rp K F as v d):SlO K md P (ρ.set i (some d)) (σ.set i (some v)) H F as :=
 s.set hm (by decide) hv λ_ _ _ _ z=>nomatch z
theorem SlO.setN{i:Nat}{v:V}{d:D}(s:SlO K md P ρ σ H F as)(hm:md[i]?=some .o)(hn:jz d=true)(hv:Rp K F as v d):SlO K md P (ρ.set i (some d)) (σ.set i (some v)) H F as :=
 s.set hm (by decide) (.inl ⟨hn,hv⟩) λ_ _ _ _ _ _ z=>by subst z;cases hn
theorem SlO.setO{i:Nat}{v:V}{d:D}{H0:Hp}(s:SlO K md P ρ σ H0 F as)(g:Gr H0 F as H' F' as')(hm:md[i]?=some .o)(hv:Ow K (λa=>H0 a=none) H' F' as' v d):SlO K md P (ρ.set i (some d)) (σ.set i (some v)) H' F' as':=by
 have s':=s.step g
 rcases hv with⟨hn,hv⟩ | ⟨a,xs,ds,rfl,rfl,e3,e4,e5,e6,e7⟩
 ·exact s'.setN hm hn hv
 ·refine s'.set hm (by decide) (.inr ⟨a,xs,ds,rfl,rfl,e3,e4,e5,λp=>s.pd a p e6,e7⟩) λb ds' j es _ hb hd hij hj he hs=>?_
  cases hb;obtain⟨v,h1,h2⟩:=s.sl j .o _ hj he;rw[hs] at h1;cases h1
  rcases h2 with⟨h2,_⟩ | ⟨a',xs',_,z1,_,z3,_⟩
  ·cases h2
  ·cases z1;rw[e6] at z3;cases z3
end
section
variable {X:Cx}{md:List Md}{P:Pt}{R:RR}
def bI:MS:=λρ O=>.nx ρ O
def aB(a b:MS):MS:=λρ O=>match a ρ O with
 | .nx ρ' O'=>b ρ' O'
 |r=>r
theorem dg:VSs X md P R [] bI:=NB.imp λD σ H q=>by
 obtain⟨ρ,O,F,as,r,s,k⟩:=q;exact k σ H F as GrS.refl r s
theorem gH{K:Frag}{mg:Str->Option Value}{D:Ends}{H F H1 F1:Hp}{as as1:List Addr}(g:GrS P H F as H1 F1 as1){f:Fl}(k:ig K mg md P R D H F as f):ig K mg md P R D H1 F1 as1 f:=by
 cases f with
 |nx ρ' O'=>exact λσ' H' F' as' g'=>k σ' H' F' as' (g.trans g')
 |bk ρ' O'=>exact λσ' H' F' as' g'=>k σ' H' F' as' (g.trans g')
 |ct ρ' O'=>exact λσ' H' F' as' g'=>k σ' H' F' as' (g.trans g')
 |rt d O'=>exact λσ' H' F' as' g'=>k σ' H' F' as' (g.trans g')
 |ex _ _=>exact k
 |no=>exact k
theorem aM{st:Stmt}{rest:List Stmt}{a b:MS}(h1:VS X md P R st a)(h2:VSs X md P R rest b):VSs X md P R (st::rest) (aB a b):=(NP h1 h2).imp λD σ H q=>by
 obtain⟨ρ,O,F,as,r,s,k⟩:=q;refine⟨ρ,O,F,as,r,s,?_⟩;unfold aB at k
 cases e:a ρ O with
 |nx ρ' O' =>
  rw[e] at k;dsimp only at k
  exact λσ' H' F' as' g r' s'=>⟨ρ',O',F',as',r',s',gH g k⟩
 |bk ρ' O'=>rw[e] at k;exact k
 |ct ρ' O'=>rw[e] at k;exact k
 |rt d O'=>rw[e] at k;exact k
 |ex x O'=>rw[e] at k;exact k
 |no=>rw[e] at k;exact k
theorem aV{st:Stmt}{a:MS}(h1:VS X md P R st a):VSs X md P R [st] a:=NQ h1
def xH:MS:=λ_ _=>.no
def qe(m:M D):MS:=λρ O=>match m ρ O with
 | .ok _ O'=>.nx ρ O'
 | .ex x O'=>.ex x O'
 | .no=>.no
theorem Te{e:Expr}{pos:Pos}{m:M D}(h:SE X md P e m)(hs:swapsWith e none pos.line X.env=pure false:=by rfl):VS X md P R (.Expr e pos) (qe m):=(sU h hs).imp λD σ H q=>by
 obtain⟨ρ,O,F,as,r,s,k⟩:=q;unfold qe at k
 cases e:m ρ O with
 |ok d O' =>
  rw[e] at k;exact⟨ρ,_,F,as,_,_,r,s,e,λv H' F' as' g r' _=>k σ H' F' as' g.toS r' (s.step g)⟩
 |ex x O'=>rw[e] at k;exact False.elim k
 |no=>rw[e] at k;exact False.elim k
def aW(m:M D):MS:=λρ O=>match m ρ O with
 | .ok d O'=>.rt d O'
 | .ex x O'=>.ex x O'
 | .no=>.no
theorem Gy(hR:gD R){e:Expr}{pos:Pos}{m:M D}(h:PE X e (tM X.K X.mg md P R m)):VS X md P R (.Return (some e) pos) (aW m):=(Ed h).imp λD σ H q=>by
 obtain⟨ρ,O,F,as,r,s,k⟩:=q;unfold aW at k
 cases e:m ρ O with
 |ok d O' =>
  rw[e] at k;exact⟨ρ,_,F,as,_,_,r,s,e,λv H' F' as' g r' hv=>k v H' F' as' g.toS r' (hR _ _ _ _ _ _ _ (λa ha p=>s.pd a p ha) hv)⟩
 |ex x O'=>rw[e] at k;exact False.elim k
 |no=>rw[e] at k;exact False.elim k
theorem cO{e:Expr}{pos:Pos}{m:M D}(h:VE X md P e m):VS X md P (rV X.K) (.Return (some e) pos) (aW m):=Gy c7 h
theorem lY{e:Expr}{pos:Pos}{m:M D}(h:OE X md P e m):VS X md P (rO X.K) (.Return (some e) pos) (aW m):=Gy dG h
theorem jU(i:Nat){x:Str}{p pos:Pos}(hm:md[i]?=some .o:=by rfl)(hN:X.N[i]?=some x:=by rfl)(hv:Vis X.env.scope x:=by first | exact Or.inl rfl | exact Or.inr (Or.inl rfl) | exact Or.inr (Or.inr rfl))
  (hd:(x == ("__debug__":Str))=false:=by decide) (hcd:(x == ("__classdict__":Str))=false:=by decide):VS X md P (rO X.K) (.Return (some (.Name x p)) pos) (aW (aa i)):=(Ed (lR (i:=i) hN hv hd hcd)).imp λD σ H q=>by
 obtain⟨ρ,O,F,as,r,s,k⟩:=q;unfold aW at k
 cases e:aa i ρ O with
 |ok d O' =>
  rw[e] at k;obtain⟨e1,rfl⟩:=tU e;obtain⟨v,h1,h2⟩:=s.sl i .o d hm e1;refine⟨v,h1,k v H F as GrS.refl r ?_⟩
  rcases h2 with h2 | ⟨a,xs,ds,e1,e2,e3,e0,e4,e5,e6⟩
  ·exact .inl h2
  ·exact .inr ⟨a,xs,ds,e1,e2,e3,e0,e4,e5,e6⟩
 |ex x O'=>rw[e] at k;exact False.elim k
 |no=>rw[e] at k;exact False.elim k
def bz(t:M Bool)(a b:MS):MS:=λρ O=>match t ρ O with
 | .ok c O'=>if c=true then a ρ O' else b ρ O'
 | .ex x O'=>.ex x O'
 | .no=>.no
theorem cX{c:Expr}{a b:List Stmt}{pos:Pos}{t:M Bool}{ma mb:MS}(hc:TsE X md P c t)(ha:VSs X md P R a ma)(hb:VSs X md P R b mb):VS X md P R (.If c a b pos) (bz t ma mb):=(N6 hc ha hb).imp λD σ H q=>by
 obtain⟨ρ,O,F,as,r,s,k⟩:=q;unfold bz at k
 cases e:t ρ O with
 |ok c O' =>
  rw[e] at k;refine⟨ρ,_,F,as,_,_,r,s,e,λH1 F1 as1 g r1=>?_⟩;dsimp only at k
  cases c with
  |true =>
   rw[if_pos rfl] at k ⊢;exact⟨ρ,O',F1,as1,r1,s.step g,gH g.toS k⟩
  |false =>
   rw[if_neg zk] at k ⊢;exact⟨ρ,O',F1,as1,r1,s.step g,gH g.toS k⟩
 |ex x O'=>rw[e] at k;exact False.elim k
 |no=>rw[e] at k;exact False.elim k
def aC(i:Nat)(m:M D):MS:=λρ O=>match m ρ O with
 | .ok d O'=>.nx (ρ.set i (some d)) O'
 | .ex x O'=>.ex x O'
 | .no=>.no
theorem xJ{K:Frag}{mg:Str->Option Value}{i:Nat}{m:M D}{t:TE}(hm:md[i]?=some .v)(ht:∀σ H Q,tM K mg md P (rV K) m σ H Q->t σ H Q){D:Ends}{σ:St}{H:Hp}(q:tMS K mg md P R (aC i m) D σ H):pM t (pL i) D σ H:=by
 obtain⟨ρ,O,F,as,r,s,k⟩:=q;unfold aC at k
 cases e:m ρ O with
 |ok d O' =>
  rw[e] at k;exact ht _ _ _ ⟨ρ,_,F,as,_,_,r,s,e,λv H' F' as' g r' hv=>k _ H' F' as' g.toS r' ((s.step g).setV hm hv)⟩
 |ex x O'=>rw[e] at k;exact False.elim k
 |no=>rw[e] at k;exact False.elim k
theorem Gz{K:Frag}{mg:Str->Option Value}{i:Nat}{m:M D}{t:TE}(hm:md[i]?=some .o)(ht:∀σ H Q,tM K mg md P (rO K) m σ H Q->t σ H Q){D:Ends}{σ:St}{H:Hp}(q:tMS K mg md P R (aC i m) D σ H):pM t (pL i) D σ H:=by
 obtain⟨ρ,O,F,as,r,s,k⟩:=q;unfold aC at k
 cases e:m ρ O with
 |ok d O' =>
  rw[e] at k;exact ht _ _ _ ⟨ρ,_,F,as,_,_,r,s,e,λv H' F' as' g r' hv=>k _ H' F' as' g.toS r' (s.setO g hm hv)⟩
 |ex x O'=>rw[e] at k;exact False.elim k
 |no=>rw[e] at k;exact False.elim k
theorem bA{i:Nat}{x:Str}{e:Expr}{pos pos':Pos}{m:M D}(hN:X.N.Nodup)(hi:X.N[i]?=some x)(hx:Loc X.env.scope x)(h:VE X md P e m)(hm:md[i]?=some .v:=by rfl)(hs:swapsWith e (some (.Name x pos')) pos.line X.env=pure false:=by rfl)
  (hf:X.fn x=true\/X.env.scope.names.lookup x=some .local:=by first | exact .inl rfl | exact .inr rfl | assumption):VS X md P R (.Assign [.Name x pos'] e pos) (aC i m):=(Ei (i:=i) hN hi hx h hs hf).imp λD σ H q=>xJ hm (λ_ _ _ z=>z) q
theorem jB{i:Nat}{x:Str}{e:Expr}{pos pos':Pos}{m:M D}(hN:X.N.Nodup)(hi:X.N[i]?=some x)(hx:Loc X.env.scope x)(h:OE X md P e m)(hm:md[i]?=some .o:=by rfl)(hs:swapsWith e (some (.Name x pos')) pos.line X.env=pure false:=by rfl)
  (hf:X.fn x=true\/X.env.scope.names.lookup x=some .local:=by first | exact .inl rfl | exact .inr rfl | assumption):VS X md P R (.Assign [.Name x pos'] e pos) (aC i m):=(Ei (i:=i) hN hi hx h hs hf).imp λD σ H q=>Gz hm (λ_ _ _ z=>z) q
abbrev MG:=D->az->Option az
def tMG(K:Frag)(mg:Str->Option Value)(md:List Md)(P:Pt)(g:MG):TG:=λv σ H Q=>∃ρ O F as d ρ',RlO K mg O H F as/\SlO K md P ρ σ H F as/\Rp K F as v d/\g d ρ=some ρ'/\∀σ',SlO K md P ρ' σ' H F as->Q σ' H
def Tf(K:Frag)(mg:Str->Option Value)(md:List Md)(P:Pt)(g:List D->az->Option az):TGs:=λvs σ H Q=>∃ρ O F as ds ρ',RlO K mg O H F as/\SlO K md P ρ σ H F as/\Rps K F as vs ds/\g ds ρ=some ρ'/\∀σ',SlO K md P ρ' σ' H F as->Q σ' H
def VG(X:Cx)(md:List Md)(P:Pt)(tg:Expr)(g:MG):Prop:=PG X tg (tMG X.K X.mg md P g)
def VGs(X:Cx)(md:List Md)(P:Pt)(tg:List Expr)(g:List D->az->Option az):Prop:=PGs X tg (Tf X.K X.mg md P g)
theorem PG.imp{e:Expr}{t t':TG}(h:PG X e t)(k:∀v σ H Q,t' v σ H Q->t v σ H Q):PG X e t':=λpins s σ H v u Q I r q=>h pins s σ H v u Q I r (k v σ H Q q)
theorem PGs.imp{e:List Expr}{t t':TGs}(h:PGs X e t)(k:∀v σ H Q,t' v σ H Q->t v σ H Q):PGs X e t':=λpins s σ H v u Q I r q=>h pins s σ H v u Q I r (k v σ H Q q)
def mgN(i:Nat):MG:=λd ρ=>some (ρ.set i (some d))
theorem bW{i:Nat}{x:Str}{pos:Pos}(hN:X.N.Nodup)(hi:X.N[i]?=some x)(hx:Loc X.env.scope x)(hm:md[i]?=some .v:=by rfl)(hf:X.fn x=true\/X.env.scope.names.lookup x=some .local:=by first | exact .inl rfl | exact .inr rfl | assumption):VG X md P (.Name x pos) (mgN i):=
 (N7 (i:=i) hN hi hx hf).imp λv σ H Q q=>by
  obtain⟨ρ,O,F,as,d,ρ',r,s,hv,e,k⟩:=q;cases e;exact k _ (s.setV hm hv)
def fU:List D->az->Option az:=λds ρ=>match ds with
 | []=>some ρ
 | _=>none
def cP(g:MG)(r:List D->az->Option az):List D->az->Option az:=λds ρ=>match ds with
 |d::ds=>(g d ρ).bind λρ1=>r ds ρ1
 | []=>none
theorem nP:VGs X md P [] fU:=Oc.imp λv σ H Q q=>by
 obtain⟨ρ,O,F,as,ds,ρ',r,s,hv,e,k⟩:=q
 cases ds with
 |nil=>cases e;exact⟨hv.un0,k _ s⟩
 |cons _ _=>cases e
theorem il{e:Expr}{es:List Expr}{g:MG}{r:List D->az->Option az}(h1:VG X md P e g)(h2:VGs X md P es r)(hs:(assignEach (e::es) X.env).map (·.2)=assign e X.env::(assignEach es X.env).map (·.2):=by rfl):VGs X md P (e::es) (cP g r):=
 (Od h1 h2 hs).imp λv σ H Q q=>by
  obtain⟨ρ,O,F,as,ds,ρ',r0,s,hv,e,k⟩:=q
  cases ds with
  |nil=>cases e
  |cons d ds =>
   obtain⟨x,rs,rfl,hx,hr⟩:=hv.un;unfold cP at e;dsimp only at e
   cases e1:g d ρ with
   |none=>rw[e1] at e;cases e
   |some ρ1 =>
    rw[e1] at e;exact⟨x,rs,rfl,ρ,O,F,as,d,ρ1,r0,s,hx,e1,λσ' s'=>⟨ρ1,O,F,as,ds,ρ',r0,s',hr,e,k⟩⟩
def fO(n:Nat)(r:List D->az->Option az):MG:=λd ρ=>match d with
 | .tup ds=>if ds.length=n then r ds ρ else none
 | _=>none
theorem nQ{es:List Expr}{pos:Pos}{k:Nat}{r:List D->az->Option az}(n:Nat)(hc:X.calm=true)(h:VGs X md P es r)(hn:(assignEach es X.env).length=n:=by rfl)(hst:(assignEach es X.env).findIdx? (·.1)=none:=by rfl):VG X md P (.Tuple es k pos) (fO n r):=
 (Og hc h hn hst).imp λv σ H Q q=>by
  obtain⟨ρ,O,F,as,d,ρ',r0,s,hv,e,k⟩:=q
  cases d with
  |tup ds =>
   obtain⟨a,xs,rfl,h1,h2⟩:=hv.unT;unfold fO at e;dsimp only at e;split at e
   ·rename_i hl;exact⟨a,xs,rfl,Same.seqT r0.fh h1,by rw[h2.length];exact hl,ρ,O,F,as,ds,ρ',r0,s,h2,e,k⟩
   ·cases e
  | _=>cases e
def Tg(m:M D)(g:MG):MS:=λρ O=>match m ρ O with
 | .ok d O'=>match g d ρ with
  |some ρ'=>.nx ρ' O'
  |none=>.no
 | .ex x O'=>.ex x O'
 | .no=>.no
end
structure lr(K:Frag)(mg:Str->Option Value)(P:Pt)(J:It)(ds:List D)(H F:Hp)(as:List Addr):Prop where
 turn:∀(i:Nat) (d:D) (H2 F2:Hp) (as2:List Addr),GrS P H F as H2 F2 as2->(∃O,RlO K mg O H2 F2 as2)->ds[i]?=some d->J.go i H2/\∀x H3,J.yld i H2 x H3->∃F3,Gr H2 F2 as2 H3 F3 as2/\(∀O,RlO K mg O H2 F2 as2->RlO K mg O H3 F3 as2)/\Rp K F3 as2 x d
 stop:∀(H2 F2:Hp) (as2:List Addr),GrS P H F as H2 F2 as2->(∃O,RlO K mg O H2 F2 as2)->J.stop ds.length H2
structure GC(K:Frag)(mg:Str->Option Value)(J:It)(ds:List D)(H F:Hp)(as:List Addr):Prop where
 turn:∀(i:Nat) (d:D) (H2 F2:Hp) (as2:List Addr),Gr H F as H2 F2 as2->(∃O,RlO K mg O H2 F2 as2)->ds[i]?=some d->J.go i H2/\∀x H3,J.yld i H2 x H3->∃F3,Gr H2 F2 as2 H3 F3 as2/\(∀O,RlO K mg O H2 F2 as2->RlO K mg O H3 F3 as2)/\Rp K F3 as2 x d
 stop:∀(H2 F2:Hp) (as2:List Addr),Gr H F as H2 F2 as2->(∃O,RlO K mg O H2 F2 as2)->J.stop ds.length H2
theorem lr.e{K:Frag}{mg:Str->Option Value}{P:Pt}{J:It}{ds:List D}{H F:Hp}{as:List Addr}(h:lr K mg P J ds H F as):GC K mg J ds H F as:=⟨λi d H2 F2 as2 g=>h.turn i d H2 F2 as2 g.toS,λH2 F2 as2 g=>h.stop H2 F2 as2 g.toS⟩
def xK(K:Frag)(mg:Str->Option Value)(md:List Md)(P:Pt)(m:M (List D)):TI:=λσ H Q=>∃ρ O F as ds O',RlO K mg O H F as/\SlO K md P ρ σ H F as/\m ρ O=.ok ds O' /\
 ∀J H' F' as',Gr H F as H' F' as'->RlO K mg O' H' F' as'->GC K mg J ds H' F' as'->Q J H'
def VIc(X:Cx)(md:List Md)(P:Pt)(tg iter:Expr)(m:M (List D)):Prop:=PI X tg iter (xK X.K X.mg md P m)
def tMI(K:Frag)(mg:Str->Option Value)(md:List Md)(P:Pt)(m:M (List D)):TI:=λσ H Q=>∃ρ O F as ds O',RlO K mg O H F as/\SlO K md P ρ σ H F as/\m ρ O=.ok ds O' /\
 ∀J H' F' as',Gr H F as H' F' as'->RlO K mg O' H' F' as'->lr K mg P J ds H' F' as'->Q J H'
def VI(X:Cx)(md:List Md)(P:Pt)(tg iter:Expr)(m:M (List D)):Prop:=PI X tg iter (tMI X.K X.mg md P m)
section
variable {X:Cx}{md:List Md}{P:Pt}{R:RR}
theorem PI.imp{tg e:Expr}{t t':TI}(h:PI X tg e t)(k:∀σ H Q,t' σ H Q->t σ H Q):PI X tg e t':=λpins s σ H Q I q=>h pins s σ H Q I (k σ H Q q)
theorem tW{tg e:Expr}{m:M (List D)}(h:VI X md P tg e m):VIc X md P tg e m:=h.imp λσ H Q q=>by
 obtain⟨ρ,O,F,as,ds,O',r,s,e,k⟩:=q;exact⟨ρ,O,F,as,ds,O',r,s,e,λJ H' F' as' g r' hJ=>k J H' F' as' g r' hJ.e⟩
def cY(g:MG)(b:MS):List D->MS
 | [],ρ,O=>.nx ρ O
 |d::ds,ρ,O=>match g d ρ with
  |none=>.no
  |some ρ1=>match b ρ1 O with
   | .nx ρ2 O2=>cY g b ds ρ2 O2
   | .ct ρ2 O2=>cY g b ds ρ2 O2
   | .bk ρ2 O2=>.nx ρ2 O2
   |r=>r
def bY(m:M (List D))(g:MG)(b:MS):MS:=λρ O=>match m ρ O with
 | .ok ds O'=>cY g b ds ρ O'
 | .ex x O'=>.ex x O'
 | .no=>.no
theorem Th{K:Frag}{mg:Str->Option Value}{m:M (List D)}{g:MG}{b:MS}{D:Ends}{σ:St}{H:Hp}(q:tMS K mg md P R (bY m g b) D σ H):wH (tMI K mg md P m) (tMG K mg md P g) (tMS K mg md P R b) D σ H:=by
 obtain⟨ρ,O,F,as,r,s,k⟩:=q;unfold bY at k
 cases e:m ρ O with
 |ex x O'=>rw[e] at k;exact False.elim k
 |no=>rw[e] at k;exact False.elim k
 |ok ds O1 =>
  rw[e] at k;dsimp only at k;refine⟨ρ,_,F,as,_,_,r,s,e,λJ H1 F1 as1 g1 r1 hJ=>?_⟩;have k1:=gH (R:=R) g1.toS k;refine⟨λi m σ' H'=>m=ds.length - i/\i<=ds.length/\∃ρ' O' F' as',GrS P H1 F1 as1 H' F' as'/\RlO K mg O' H' F' as'/\SlO K md P ρ' σ' H' F' as'/\ig K mg md P R D H' F' as' (cY g b (ds.drop i) ρ' O'),⟨ds.length,by simp,Nat.zero_le _,ρ,O1,F1,as1,GrS.refl,r1,s.step g1,by rw[List.drop_zero];exact k1⟩,?_⟩;rintro i n σ' H' ⟨rfl,hi,ρ',O',F',as',g',r',s',k'⟩
  by_cases hlt:i<ds.length
  ·have hd:=zg hlt;obtain⟨go,yl⟩:=hJ.turn i _ H' F' as' g' ⟨O',r'⟩ hd;rw[List.drop_eq_getElem_cons hlt] at k';refine .inr ⟨go,λσ2 H2=>∃ρ2 O2 F2 as2,GrS P H1 F1 as1 H2 F2 as2/\RlO K mg O2 H2 F2 as2/\SlO K md P ρ2 σ2 H2 F2 as2/\ig K mg md P R D H2 F2 as2 (cY g b (ds.drop (i+1)) ρ2 O2),λσ2 H2 h2=>⟨ds.length - (i+1),by omega,rfl,hlt,h2⟩,λx H3 y=>?_⟩;obtain⟨F3,g3,r3,hx⟩:=yl x H3 y;have r3':=r3 O' r';unfold cY at k'
   cases eg:g ds[i] ρ' with
   |none=>rw[eg] at k';exact False.elim k'
   |some ρ1 =>
    rw[eg] at k';dsimp only at k';refine⟨ρ',O',F3,as',ds[i],ρ1,r3',s'.step g3,hx,eg,λσ4 s4=>?_⟩;refine⟨ρ1,O',F3,as',r3',s4,?_⟩;have g4:GrS P H1 F1 as1 H3 F3 as':=g'.trans g3.toS
    have keep:=λ{f}=>gH (K:=K) (mg:=mg) (md:=md) (R:=R) (D:=D) (f:=f) (g3.toS (P:=P))
    cases eb:b ρ1 O' with
    |nx ρ2 O2 =>
     rw[eb] at k'
     exact λσ2 H2 F2 as2 g2 r2 s2=>⟨ρ2,O2,F2,as2,g4.trans g2,r2,s2,gH g2 (keep k')⟩
    |ct ρ2 O2 =>
     rw[eb] at k'
     exact λσ2 H2 F2 as2 g2 r2 s2=>⟨ρ2,O2,F2,as2,g4.trans g2,r2,s2,gH g2 (keep k')⟩
    |bk ρ2 O2 =>
     rw[eb] at k'
     exact λσ2 H2 F2 as2 g2 r2 s2=>k' σ2 H2 F2 as2 (g3.toS.trans g2) r2 s2
    |rt d O2 =>
     rw[eb] at k'
     exact λv H2 F2 as2 g2 r2 s2=>k' v H2 F2 as2 (g3.toS.trans g2) r2 s2
    |ex _ _=>rw[eb] at k';exact False.elim k'
    |no=>rw[eb] at k';exact False.elim k'
  ·have hi':i=ds.length:=by omega
   subst hi';refine .inl ⟨hJ.stop H' F' as' g' ⟨O',r'⟩,?_⟩;rw[List.drop_length] at k';exact k' σ' H' F' as' GrS.refl r' s'
theorem fB{tg iter:Expr}{body:List Stmt}{pos:Pos}{m:M (List D)}{g:MG}{b:MS}(hc:X.calm=true)(hi:VI X md P tg iter m)(hg:VG X md P tg g)(hb:VSs X md P R body b)(hp:PassesOwn (model X.prog X.w) X.A X.env X.xe:=by exact PassesOwn.never)
  (hs:∀x,foldedSetIterable iter X.env x=pure x:=by intro _;rfl):VS X md P R (.For tg iter body [] pos) (bY m g b):=(Em hp hc hi hg hb hs).imp λ_ _ _ q=>Th q
def fV(t:M Bool)(b:MS):Nat->MS
 | 0,_,_=>.no
 |n+1,ρ,O=>match t ρ O with
  | .ok true O1=>match b ρ O1 with
   | .nx ρ2 O2=>fV t b n ρ2 O2
   | .ct ρ2 O2=>fV t b n ρ2 O2
   | .bk ρ2 O2=>.nx ρ2 O2
   |r=>r
  | .ok false O1=>.nx ρ O1
  | .ex x O'=>.ex x O'
  | .no=>.no
def lu(n:Nat)(t:M Bool)(b:MS):MS:=fV t b n
theorem Ti{K:Frag}{mg:Str->Option Value}{n:Nat}{t:M Bool}{b:MS}{D:Ends}{σ:St}{H:Hp}(q:tMS K mg md P R (lu n t b) D σ H):Ej (tMT K mg md P t) (tMS K mg md P R b) D σ H:=by
 refine⟨λn σ' H'=>tMS K mg md P R (fV t b n) D σ' H',⟨n,q⟩,?_⟩;rintro m σ1 H1 ⟨ρ,O,F,as,r,s,k⟩
 cases m with
 |zero=>exact False.elim k
 |succ m =>
  unfold fV at k
  cases e:t ρ O with
  |ex x O'=>rw[e] at k;exact False.elim k
  |no=>rw[e] at k;exact False.elim k
  |ok c O1 =>
   rw[e] at k;refine⟨ρ,_,F,as,_,_,r,s,e,λH2 F2 as2 g2 r2=>?_⟩
   cases c with
   |false =>
    rw[if_neg zk];exact k σ1 H2 F2 as2 g2.toS r2 (s.step g2)
   |true =>
    rw[if_pos rfl];refine⟨λσ' H'=>tMS K mg md P R (fV t b m) D σ' H',λσ' H' h'=>⟨m,jg m,h'⟩,ρ,O1,F2,as2,r2,s.step g2,?_⟩;dsimp only at k
    have keep:=λ{f}=>gH (K:=K) (mg:=mg) (md:=md) (R:=R) (D:=D) (f:=f) (g2.toS (P:=P))
    cases eb:b ρ O1 with
    |nx ρ2 O2 =>
     rw[eb] at k
     exact λσ3 H3 F3 as3 g3 r3 s3=>⟨ρ2,O2,F3,as3,r3,s3,gH g3 (keep k)⟩
    |ct ρ2 O2 =>
     rw[eb] at k
     exact λσ3 H3 F3 as3 g3 r3 s3=>⟨ρ2,O2,F3,as3,r3,s3,gH g3 (keep k)⟩
    |bk ρ2 O2 =>
     rw[eb] at k
     exact λσ3 H3 F3 as3 g3 r3 s3=>k σ3 H3 F3 as3 (g2.toS.trans g3) r3 s3
    |rt d O2 =>
     rw[eb] at k
     exact λσ3 H3 F3 as3 g3 r3 s3=>k σ3 H3 F3 as3 (g2.toS.trans g3) r3 s3
    |ex _ _=>rw[eb] at k;exact False.elim k
    |no=>rw[eb] at k;exact False.elim k
theorem GD(n:Nat){c:Expr}{body:List Stmt}{pos:Pos}{t:M Bool}{b:MS}(hc:TsE X md P c t)(hb:VSs X md P R body b)(hp:PassesOwn (model X.prog X.w) X.A X.env X.xe:=by exact PassesOwn.never):VS X md P R (.While c body [] pos) (lu n t b):=
 (Oi hp hc hb).imp λ_ _ _ q=>Ti q
def cz(g:MG)(t:M Bool)(m:M D):List D->az->ao->List D->Res (List D)
 | [],ρ,O,acc=>.ok acc O
 |d::ds,ρ,O,acc=>match g d ρ with
  |none=>.no
  |some ρ1=>match t ρ1 O with
   | .ok true O1=>match m ρ1 O1 with
    | .ok y O2=>cz g t m ds ρ1 O2 (acc++[y])
    | .ex x O'=>.ex x O'
    | .no=>.no
   | .ok false O1=>cz g t m ds ρ1 O1 acc
   | .ex x O'=>.ex x O'
   | .no=>.no
def iK(own:Nat)(cap:List Nat)(ρ:az):az:=List.replicate own none++cap.map λj=>(ρ[j]?).join
def cI(m:M (List D))(own:Nat)(cap:List Nat)(g:MG)(t:M Bool)(e:M D):M D:=λρ O=>(m ρ O).bind λds O1=>if ds.length<=1000000 then(cz g t e ds (iK own cap ρ) O1 []).bind λys O2=>.ok (.lst ys) O2 else .no
def cT:M Bool:=λ_ O=>.ok true O
def cMd(own:Nat)(cap:List Nat)(md:List Md):List Md:=List.replicate own .v++cap.map λj=>match md[j]? with
 |some .v=>.v
 | _=>.s
theorem GF{K:Frag}{ρ:az}{σ:St}{H F:Hp}{as:List Addr}{own:List Str}{cap:List Nat}(s:SlO K md P ρ σ H F as)(hcap:∀j∈cap,j<md.length):SlO K (cMd own.length cap md) (Pt.all H) (iK own.length cap ρ) (compSt own cap σ) H F as:=by
 refine⟨by simp[compSt,cMd],by simp[iK,cMd],λa h=>h,λi m d e1 e2=>?_,λi j a ds es h1=>?_,λ_ z=>nomatch z⟩
 ·unfold iK at e2;unfold cMd at e1;unfold compSt
  by_cases hi:i<own.length
  ·rw[zv (by simpa using hi),List.getElem?_replicate_of_lt hi] at e2;cases e2
  ·have hi':own.length<=i:=Nat.le_of_not_lt hi;rw[zI (by simpa using hi'),List.length_replicate,zl] at e2 e1;rw[zI (by simpa using hi'),zd,zl]
   cases q:cap[i - own.length]? with
   |none=>rw[q] at e2;cases e2
   |some j =>
    rw[q] at e1 e2;simp only[Option.map_some,Option.some.injEq] at e1 e2 ⊢
    cases q2:ρ[j]? with
    |none=>rw[q2] at e2;cases e2
    |some o =>
     rw[q2] at e2;have e2':o=some d:=e2;subst e2';obtain⟨m0,v,h1,h2,h3⟩:=s.get q2;rw[h1] at e1;refine⟨v,by rw[h2];rfl,?_⟩
     cases m0 with
     |v=>dsimp only at e1;subst e1;exact h3
     |s =>
      dsimp only at e1;subst e1
      rcases h3 with h3 | ⟨a,xs,ds,e1,e2,e3,e4,e5,e6⟩
      ·exact .inl h3
      ·exact .inr ⟨a,xs,ds,e1,e2,e3,e4,(show H a≠none by rw[e3];exact λz=>nomatch z),e6⟩
     |o =>
      dsimp only at e1;subst e1
      rcases h3 with⟨_,h3⟩ | ⟨a,xs,ds,e1,e2,e3,e0,e4,e5,e6⟩
      ·exact .inl h3
      ·exact .inr ⟨a,xs,ds,e1,e2,e3,e4,(show H a≠none by rw[e3];exact λz=>nomatch z),e6⟩
 ·exfalso
  unfold cMd at h1
  by_cases hi:i<own.length
  ·rw[zv (by simpa using hi),List.getElem?_replicate_of_lt hi] at h1;cases h1
  ·have hi':own.length<=i:=Nat.le_of_not_lt hi;rw[zI (by simpa using hi'),List.length_replicate,zl] at h1
   cases q:cap[i - own.length]? with
   |none=>rw[q] at h1;cases h1
   |some j =>
    rw[q] at h1;simp only[Option.map_some,Option.some.injEq] at h1
    split at h1<;>cases h1
end
section
variable {X:Cx}{md:List Md}{P:Pt}{R:RR}
def xM(K:Frag)(mg:Str->Option Value)(md:List Md)(R:RR)(m:M D):TE:=λσ H Q=>∃P,tM K mg md P R m σ H Q
def xMT(K:Frag)(mg:Str->Option Value)(md:List Md)(m:M Bool):TT:=λσ H Q=>∃P,tMT K mg md P m σ H Q
def xMG(K:Frag)(mg:Str->Option Value)(md:List Md)(g:MG):TG:=λv σ H Q=>∃P,tMG K mg md P g v σ H Q
theorem xm{e:Expr}{m:M D}(h:∀P,PE X e (tM X.K X.mg md P R m)):PE X e (xM X.K X.mg md R m):=λpins s σ H Q I ⟨P,q⟩=>h P pins s σ H Q I q
theorem xmg{e:Expr}{g:MG}(h:∀P,VG X md P e g):PG X e (xMG X.K X.mg md g):=λpins s σ H v u Q I r ⟨P,q⟩=>h P pins s σ H v u Q I r q
theorem xmt{e:List Expr}{m:M Bool}(h:∀P,kY X e (tMT X.K X.mg md P m)):kY X e (xMT X.K X.mg md m):=λpins s σ H Q I ⟨P,q⟩=>h P pins s σ H Q I q
def VIf(X:Cx)(md:List Md)(P:Pt)(e:List Expr)(m:M Bool):Prop:=kY X e (tMT X.K X.mg md P m)
theorem jC:VIf X md P [] cT:=λpins s σ H Q I q=>by
 obtain⟨ρ,O,F,as,d,O',r,s,e,k⟩:=q;cases e;exact RL pins _ σ H Q I (k H F as Gr.refl r)
theorem xN{c:Expr}{m:M Bool}(h:TsE X md P c m):VIf X md P [c] m:=RM h
theorem tX{K:Frag}{mg:Str->Option Value}{m:M (List D)}{own:List Str}{cap:List Nat}{g:MG}{t:M Bool}{e:M D}(hcap:∀j∈cap,j<md.length){σ:St}{H:Hp}{Q:VK}(q:tM K mg md P (rO K) (cI m own.length cap g t e) σ H Q):
  tL (xK K mg md P m) own cap (xMG K mg (cMd own.length cap md) g) (xMT K mg (cMd own.length cap md) t) (xM K mg (cMd own.length cap md) (rV K) e) σ H Q:=by
 obtain⟨ρ,O,F,as,d,OZ,r,s,eq,k⟩:=q;obtain⟨ds,O1,e1,eq⟩:=Res.bind_ok eq;split at eq
 ·rename_i hz;obtain⟨yf,O2,e2,eq⟩:=Res.bind_ok eq;cases eq;refine⟨ρ,_,F,as,_,_,r,s,e1,λJ H1 F1 as1 g1 r1 hJ=>?_⟩;have sb:=GF (own:=own) (s.step g1) hcap
  refine⟨λi n ys σ' H'=>n=ds.length - i/\i<=ds.length/\∃ρ' O' F' as' acc,Gr H1 F1 as1 H' F' as'/\RlO K mg O' H' F' as'/\SlO K (cMd own.length cap md) (Pt.all H1) ρ' σ' H' F' as'/\Rps K F' as' ys acc/\acc.length<=i /\
   cz g t e (ds.drop i) ρ' O' acc=.ok yf OZ,⟨ds.length,by simp,Nat.zero_le _,iK own.length cap ρ,O1,F1,as1,[],Gr.refl,r1,sb,Rps.nil,zb _,by rw[List.drop_zero];exact e2⟩,?_⟩
  rintro i n ys σ' H' ⟨rfl,hi,ρ',O',F',as',acc,g',r',s',hy,hl,ec⟩
  by_cases hlt:i<ds.length
  ·obtain⟨go,yl⟩:=hJ.turn i _ H' F' as' g' ⟨O',r'⟩ (zg hlt)
   refine .inr ⟨go,?_,λys σ2 H2=>∃ρ2 O3 F2 as2 acc2,Gr H1 F1 as1 H2 F2 as2/\RlO K mg O3 H2 F2 as2/\SlO K (cMd own.length cap md) (Pt.all H1) ρ2 σ2 H2 F2 as2/\Rps K F2 as2 ys acc2/\acc2.length<=i+1 /\
    cz g t e (ds.drop (i+1)) ρ2 O3 acc2=.ok yf OZ,λys2 σ2 H2 h2=>⟨ds.length - (i+1),by omega,rfl,hlt,h2⟩,λx H3 y=>?_⟩
   ·rw[hy.length]
    have:=fQ hz
    omega
   obtain⟨F3,g3,r3,hx⟩:=yl x H3 y;have r3':=r3 O' r';have g13:=g'.trans g3;rw[List.drop_eq_getElem_cons hlt] at ec;unfold cz at ec
   cases eg:g ds[i] ρ' with
   |none=>rw[eg] at ec;cases ec
   |some ρ1 =>
    rw[eg] at ec;dsimp only at ec;refine⟨_,ρ',O',F3,as',ds[i],ρ1,r3',s'.step g3,hx,eg,λσ4 s4=>?_⟩
    cases et:t ρ1 O' with
    |ex _ _=>rw[et] at ec;cases ec
    |no=>rw[et] at ec;cases ec
    |ok c O4 =>
     rw[et] at ec;refine⟨_,ρ1,O',F3,as',c,O4,r3',s4,et,λH5 F5 as5 g5 r5=>?_⟩
     cases c with
     |false =>
      rw[if_neg zk];exact⟨ρ1,O4,F5,as5,acc,g13.trans g5,r5,s4.step g5,(hy.gr g3).gr g5,by omega,ec⟩
     |true =>
      rw[if_pos rfl];dsimp only at ec
      cases em:e ρ1 O4 with
      |ex _ _=>rw[em] at ec;cases ec
      |no=>rw[em] at ec;cases ec
      |ok yd O6 =>
       rw[em] at ec;refine⟨_,ρ1,O4,F5,as5,yd,O6,r5,s4.step g5,em,λvy H7 F7 as7 g7 r7 hvy=>?_⟩;exact⟨ρ1,O6,F7,as7,acc++[yd],(g13.trans g5).trans g7,r7,(s4.step g5).step g7,(((hy.gr g3).gr g5).gr g7).snoc hvy,by rw[ze];show acc.length+1<=i+1;omega,ec⟩
  ·have hi':i=ds.length:=by omega
   subst hi';rw[List.drop_length] at ec;cases ec;refine .inl ⟨hJ.stop H' F' as' g' ⟨_,r'⟩,?_,λp hp=>?_⟩
   ·rw[hy.length];exact zG hl (fQ hz)
   ·have hF:F' p=none:=by
     cases q:F' p with
     |none=>rfl
     |some o=>rw[r'.fh p o q] at hp;cases hp
    exact k _ _ F' as' ((g1.trans g').trans (Gr.lay hp)) (r'.lay hp) (.inr ⟨p,ys,yf,rfl,rfl,bJ,hF,λz=>r'.all z hp,(g1.trans g').dm p hp,hy⟩)
 ·cases eq
variable {tg iter elt:Expr}{ifs:List Expr}{scope:Scope}{pos:Pos}{mi:M (List D)}{g:MG}{t:M Bool}{e:M D}
theorem lz(sc0:Scope)(N0 own:List Str)(cap:List Nat)(hc:X.calm=true)(hi:VIc X md P tg iter mi)
  (hg:∀C s H ex P,VG (bV X scope C (bC N0 own cap) s H ex) (cMd own.length cap md) P tg g) (ht:∀C s H ex P,VIf (bV X scope C (bC N0 own cap) s H ex) (cMd own.length cap md) P ifs t)
  (he:∀C s H ex P,VE (bV X scope C (bC N0 own cap) s H ex) (cMd own.length cap md) P elt e)
  (hcap:∀j∈cap,j<md.length:=by decide) (hsc:X.env.scope=sc0:=by rfl) (hN0:X.N=N0:=by rfl) (ok:kW sc0 N0 scope own cap=true:=by decide +kernel) (hs:∀x,foldedSetIterable iter X.env x=pure x:=by intro _;rfl):
  OE X md P (.ListComp elt [⟨tg,iter,ifs,0⟩] scope pos) (cI mi own.length cap g t e):=
 (RV sc0 N0 own cap hc hi (λC s H ex=>xmg (hg C s H ex)) (λC s H ex=>xmt (ht C s H ex)) (λC s H ex=>xm (he C s H ex)) hsc hN0 ok hs).imp λ_ _ _ q=>tX hcap q
theorem GJ{i:Nat}{x:Str}{pos' spos:Pos}(sc0:Scope)(N0 own:List Str)(cap:List Nat)(hN:X.N.Nodup)(hx:X.N[i]?=some x)(hl:Loc X.env.scope x)(hc:X.calm=true)(hi:VIc X md P tg iter mi)
  (hg:∀C s H ex P,VG (bV X scope C (bC N0 own cap) s H ex) (cMd own.length cap md) P tg g) (ht:∀C s H ex P,VIf (bV X scope C (bC N0 own cap) s H ex) (cMd own.length cap md) P ifs t)
  (he:∀C s H ex P,VE (bV X scope C (bC N0 own cap) s H ex) (cMd own.length cap md) P elt e)
  (hm:md[i]?=some .v:=by rfl) (hcap:∀j∈cap,j<md.length:=by decide) (hsw:swapsWith (.ListComp elt [⟨tg,iter,ifs,0⟩] scope pos) (some (.Name x pos')) spos.line X.env=pure true:=by rfl)
  (hf:X.fn x=true\/X.env.scope.names.lookup x=some .local:=by first | exact .inl rfl | exact .inr rfl | assumption)
  (hsc:X.env.scope=sc0:=by rfl) (hN0:X.N=N0:=by rfl) (ok:kW sc0 N0 scope own cap=true:=by decide +kernel) (hs:∀x,foldedSetIterable iter X.env x=pure x:=by intro _;rfl):
  VS X md P R (.Assign [.Name x pos'] (.ListComp elt [⟨tg,iter,ifs,0⟩] scope pos) spos) (aC i (cI mi own.length cap g t e)):=
 (xB (i:=i) sc0 N0 own cap hN hx hl hc hi (λC s H ex=>xmg (hg C s H ex)) (λC s H ex=>xmt (ht C s H ex)) (λC s H ex=>xm (he C s H ex)) hsw hf hsc hN0 ok hs).imp λD σ H q =>
  xJ hm (λσ H Q z=>tX hcap (by
   obtain⟨ρ,O,F,as,d,O',r,s,e,k⟩:=z;refine⟨ρ,_,F,as,_,_,r,s,e,λv H' F' as' g r' hv=>?_⟩
   rcases hv with⟨_,hv⟩ | ⟨a,xs,ds,rfl,rfl,e3,e4,e5,e6,e7⟩
   ·exact k v H' F' as' g r' hv
   ·have ff:Same F' (upd F' a (.lst xs)):=λb u q=>by rw[aK (bT q e4)];exact q
    exact k _ H' (upd F' a (.lst xs)) as' (g.frz e6 e4) (r'.frz e3 e4 e5 rfl) (Rp.mkL (.inl (.inl bJ)) (Rps.mono ff (λ_ _ z=>z) _ e7)))) q
theorem GK{i:Nat}{x:Str}{pos' spos:Pos}(sc0:Scope)(N0 own:List Str)(cap:List Nat)(hN:X.N.Nodup)(hx:X.N[i]?=some x)(hl:Loc X.env.scope x)(hc:X.calm=true)(hi:VIc X md P tg iter mi)
  (hg:∀C s H ex P,VG (bV X scope C (bC N0 own cap) s H ex) (cMd own.length cap md) P tg g) (ht:∀C s H ex P,VIf (bV X scope C (bC N0 own cap) s H ex) (cMd own.length cap md) P ifs t)
  (he:∀C s H ex P,VE (bV X scope C (bC N0 own cap) s H ex) (cMd own.length cap md) P elt e)
  (hm:md[i]?=some .o:=by rfl) (hcap:∀j∈cap,j<md.length:=by decide) (hsw:swapsWith (.ListComp elt [⟨tg,iter,ifs,0⟩] scope pos) (some (.Name x pos')) spos.line X.env=pure true:=by rfl)
  (hf:X.fn x=true\/X.env.scope.names.lookup x=some .local:=by first | exact .inl rfl | exact .inr rfl | assumption)
  (hsc:X.env.scope=sc0:=by rfl) (hN0:X.N=N0:=by rfl) (ok:kW sc0 N0 scope own cap=true:=by decide +kernel) (hs:∀x,foldedSetIterable iter X.env x=pure x:=by intro _;rfl):
  VS X md P R (.Assign [.Name x pos'] (.ListComp elt [⟨tg,iter,ifs,0⟩] scope pos) spos) (aC i (cI mi own.length cap g t e)):=
 (xB (i:=i) sc0 N0 own cap hN hx hl hc hi (λC s H ex=>xmg (hg C s H ex)) (λC s H ex=>xmt (ht C s H ex)) (λC s H ex=>xm (he C s H ex)) hsw hf hsc hN0 ok hs).imp λD σ H q =>
  Gz hm (λσ H Q z=>tX hcap z) q
end
def vSp(K:Frag)(mg:Str->Option Value)(pm:List Md)(R:RR)(c:List D->ao->Res D):Sp:=λvs H Q _ =>
 ∃ds O F as d O',RlO K mg O H F as/\cW K H F as pm vs ds/\c ds O=.ok d O'/\∀v H' F' as',Gr H F as H' F' as'->RlO K mg O' H' F' as'->R (λa=>H a=none) H' F' as' v d->Q v H'
def bL(n:Nat)(b:MS):List D->ao->Res D:=λds O=>match b (ds.map some++List.replicate (n - ds.length) none) O with
 | .rt d O'=>.ok d O'
 | .nx _ O'=>.ok .non O'
 | .ex x O'=>.ex x O'
 | _=>.no
theorem cW.len{K:Frag}{H F:Hp}{as:List Addr}:∀{ms:List Md}{vs:List V}{ds:List D},cW K H F as ms vs ds->vs.length=ms.length/\ds.length=ms.length
 | [],[],[],_=>⟨rfl,rfl⟩
 |m::ms,v::vs,d::ds,h=>by
  have:=cW.len h.2
  simp[this.1,this.2]
 | [],[],_::_,h=>h.elim
 | [],_::_,[],h=>h.elim
 | [],_::_,_::_,h=>h.elim
 | _::_,[],[],h=>h.elim
 | _::_,[],_::_,h=>h.elim
 | _::_,_::_,[],h=>h.elim
theorem cW.get{K:Frag}{H F:Hp}{as:List Addr}:∀{ms:List Md}{vs:List V}{ds:List D}{i:Nat}{m:Md}{d:D},cW K H F as ms vs ds->ms[i]?=some m->ds[i]?=some d->∃v,vs[i]?=some v/\rA K m (λ_=>True) H F as v d
 |m::ms,v::vs,d::ds,0,m',d',h,e1,e2=>by
  simp at e1 e2
  subst e1 e2;exact⟨v,rfl,h.1⟩
 |m::ms,v::vs,d::ds,i+1,m',d',h,e1,e2=>by
  obtain⟨v',h1,h2⟩:=cW.get (i:=i) (m:=m') (d:=d') h.2 (by simpa using e1) (by simpa using e2);exact⟨v',by simpa using h1,h2⟩
 | [],[],[],_,_,_,_,e1,_=>by simp at e1
 | [],[],_::_,_,_,_,h,_,_=>h.elim
 | [],_::_,[],_,_,_,h,_,_=>h.elim
 | [],_::_,_::_,_,_,_,h,_,_=>h.elim
 | _::_,[],[],_,_,_,h,_,_=>h.elim
 | _::_,[],_::_,_,_,_,h,_,_=>h.elim
 | _::_,_::_,[],_,_,_,h,_,_=>h.elim
theorem GP{K:Frag}{H F:Hp}{as:List Addr}{N:List Str}{pm lm:List Md}{vs:List V}{ds:List D}(h:cW K H F as pm vs ds)(hl:(pm++lm).length=N.length)(hp:∀m∈pm,m≠.o):
  SlO K (pm++lm) (Pt.all H) (ds.map some++List.replicate (N.length - ds.length) none) (start N vs) H F as:=by
 obtain⟨h1,h2⟩:=h.len;rw[ze] at hl
 have vsl:vs.length<=N.length:=by omega
 have no:∀i a,(ds.map some++List.replicate (N.length - ds.length) none)[i]?=some (some a)->i<ds.length:=λi a e=>by
  by_cases hi:i<ds.length
  ·exact hi
  ·rw[zI (by simpa using hi),List.getElem?_replicate] at e
   split at e<;>cases e
 refine⟨by unfold start;simp;omega,by simp;omega,λa z=>z,λi m d e1 e2=>?_,λi j a es fs e1 e2 e3=>?_,λ_ z=>nomatch z⟩
 ·have hi:=no i d e2;rw[zv (by simpa using hi),zl] at e2;rw[zv (by omega)] at e1
  cases q:ds[i]? with
  |none=>rw[q] at e2;cases e2
  |some d' =>
   rw[q] at e2;cases e2;obtain⟨v,h3,h4⟩:=h.get e1 q;refine⟨v,?_,?_⟩
   ·unfold start;rw[zv (by simp;omega),zl,h3];rfl
   ·cases m with
    |v=>exact h4
    |s =>
     rcases h4 with h4 | ⟨a,xs,es,z1,z2,z3,z4,z5⟩
     ·exact .inl h4
     ·exact .inr ⟨a,xs,es,z1,z2,z3,z4,(show H a≠none by rw[z3];exact λz=>nomatch z),z5⟩
    |o=>exact absurd rfl (hp .o (zy e1))
 ·have hi:=no i _ e3;rw[zv (by omega)] at e1;exact absurd rfl (hp .o (zy e1))
section
variable {Pr:Program}{w:World}{K:Frag}{mg:Str->Option Value}{base:Heap}
theorem cU{x:Str}{st:Stmt}{N ps:List Str}{k:Nat}(Df:Def K mg x st)(S:bN N ps (aY st))
  (hb:∀(kV doc pm:Value) (an:Option Addr) (cdv ct:Value) (us:List Value),us.length=ps.length->bindArgs (PySem.W.fnOf x x (g8 st) (eU st) (aY st) .none kV doc pm an cdv ct) ⟨us,[]⟩=pure (ps.zip us))
  (pm lm:List Md) {R:RR}{b:MS} (hR:gD R) (hR0:∀N H F as,R N H F as .non .non) (hpl:pm.length=ps.length:=by rfl) (hl:(pm++lm).length=N.length:=by rfl) (hp:∀m∈pm,m≠.o:=by decide)
  (body:∀(f:Addr) (cdv:Value) (A:Around) (outer:List Env) (s:Shared) (H:Hp) (E:XK),bG k (A.deeper (envOfC x (aY st) s.heap.objs.size f cdv))->∀P,VSs ((iD CX0 Pr w K mg base N x (aY st) f cdv A outer s H E).nox) (pm++lm) P R (eU st) b):
  Can Pr w K mg base x ps (k+1) (vSp K mg pm R (bL N.length b)):=by
 refine Df.can (k:=k) S hb (λvs H Q E h=>?_) (λf cdv A outer s H vs Q E hr h=>?_)
 ·obtain⟨ds,O,F,as,d,O',r,a,_⟩:=h;rw[a.len.1,hpl]
 ·obtain⟨ds,O,F,as,d,O',r,a,e,q⟩:=h;refine⟨_,body f cdv A outer s H E hr (Pt.all H),?_⟩;refine⟨_,O,F,as,r,GP a hl hp,?_⟩;unfold bL at e
  cases eb:b (ds.map some++List.replicate (N.length - ds.length) none) O with
  |rt d' O2 =>
   rw[eb] at e;cases e
   exact λv H' F' as' g r' hv=>q v H' F' as' g.gr r' (hR _ _ _ _ _ _ _ (λc hc=>Classical.not_not.mp hc) hv)
  |nx ρ O2 =>
   rw[eb] at e;cases e
   exact λσ' H' F' as' g r' _=>q _ H' F' as' g.gr r' (hR0 _ _ _ _)
  |bk _ _=>rw[eb] at e;cases e
  |ct _ _=>rw[eb] at e;cases e
  |ex _ _=>rw[eb] at e;cases e
  |no=>rw[eb] at e;cases e
end
section
variable {X:Cx}{md:List Md}{P:Pt}{R:RR}{k:Nat}{x:Str}{ps:List Str}{p pos:Pos}{e:Expr}{es:List Expr}{pm:List Md}{c:List D->ao->Res D}{ma:M (List D)}
def aJ(c:List D->ao->Res D)(ma:M (List D)):M D:=λρ O=>(ma ρ O).bind λds O1=>c ds O1
theorem Tj{K:Frag}{mg:Str->Option Value}(hR:gD R){E:XK}{σ:St}{H:Hp}{Q:VK}(q:tM K mg md P R (aJ c ma) σ H Q):wR (vSp K mg pm R c) [] E (tMA K mg md P pm ma) σ H Q:=by
 obtain⟨ρ,O,F,as,d,O',r,s,e,k⟩:=q;obtain⟨ds,O1,e1,e⟩:=Res.bind_ok e;refine⟨ρ,_,F,as,_,_,r,s,e1,λvs H1 F1 as1 g1 r1 hv=>?_⟩;dsimp only;rw[zS];exact⟨ds,O1,F1,as1,d,O',r1,hv,e,λv H' F' as' g' r' hw=>k v H' F' as' (g1.trans g') r' (hR _ _ _ _ _ _ _ (λa ha=>g1.dm a ha) hw)⟩
theorem GQ(hR:gD R)(C:Can X.prog X.w X.K X.mg X.base x ps k (vSp X.K X.mg pm R c))(hr:bG k X.A)(ha:AE X md P pm (e::es) ma)(hg:Gl X x:=by rfl)(hdb:(x == ("__debug__":Str))=false:=by decide)
  (he:starEach (e::es) X.env=(false,eval e X.env)::starEach es X.env:=by exact cD rfl) (hpl:(backTo pos (starEach es X.env)).any (·.1)=false:=by exact eO rfl):PE X (.Call (.Name x p) (e::es) [] pos) (tM X.K X.mg md P R (aJ c ma)):=
 (RW C hr ha hg hdb he hpl).imp λ_ _ _ q=>Tj hR q
end
section
variable {K:Frag}{mg:Str->Option Value}{H F:Hp}{as:List Addr}{O:ao}{Q:VK}{d:D}{p:Addr}{xs:List V}{ds:List D}
theorem cA{v:V}(r:RlO K mg O H F as)(k:∀v' H' F',Gr H F as H' F' as->RlO K mg O H' F' as->Ow K (λa=>H a=none) H' F' as v' d->Q v' H')(hn:jz d=true)(hv:Rp K F as v d):Q v H:=k v H F Gr.refl r (.inl ⟨hn,hv⟩)
theorem RlO.frF(r:RlO K mg O H F as)(hp:H p=none):F p=none:=by
 cases q:F p with
 |none=>rfl
 |some o=>rw[r.fh p o q] at hp;cases hp
theorem qg(r:RlO K mg O H F as)(k:∀v' H' F',Gr H F as H' F' as->RlO K mg O H' F' as->Ow K (λa=>H a=none) H' F' as v' (.lst ds)->Q v' H')(hp:H p=none)(hs:Rps K F as xs ds):Q (.ref p) (upd H p (.lst xs)):=
 k _ _ F (Gr.lay hp) (r.lay hp) (.inr ⟨p,xs,ds,rfl,rfl,bJ,r.frF hp,λz=>r.all z hp,hp,hs⟩)
theorem GR(r:RlO K mg O H F as)(k:∀v' H' F',Gr H F as H' F' as->RlO K mg O H' F' as->Ow K (λa=>H a=none) H' F' as v' (.tup ds)->Q v' H')(hp:H p=none)(hs:Rps K F as xs ds):Q (.ref p) (upd H p (.tup xs)):=by
 have hF:=r.frF hp
 have ff:Same F (upd F p (.tup xs)):=λb u q=>by rw[aK (bT q hF)];exact q
 exact k _ _ (upd F p (.tup xs)) ((Gr.lay hp).frz hp hF) ((r.lay hp).frz bJ hF (λz=>r.all z hp) rfl) (.inl ⟨rfl,Rp.mkT (.inl bJ) (Rps.mono ff (λ_ _ z=>z) _ hs)⟩)
end
section
variable {X:Cx}
def Tn(K:Frag):R2:=λx y H Q=>∃l b xs zs,x=.ref l/\y=.ref b/\RdK K H l xs/\RdK K H b zs/\xs.length+zs.length<=sizeLine/\∀p,H p=none->Q (.ref p) (upd H p (.lst (xs++zs)))
theorem Tp:OpR X (binaryOp .Add) (Tn X.K):=by
 intro pins s σ H x y v u Q I rx ry h;obtain⟨l,b,xs,zs,rfl,rfl,hH,hB,hz,q⟩:=h;cases rx;cases ry;obtain⟨z,its,n,r,e⟩:=hH.ok I;obtain⟨z2,its2,n2,r2,e2⟩:=hB.ok I;have hl:=r.length;have hl2:=r2.length;refine PySem.P.add_list e e2 ?_ (by rw[zq,zq];omega)
 have ea:its.toArray++its2.toArray=(its++its2).toArray:=by simp
 rw[ea];exact⟨.ref _,_,I.lnew (t':=s.toks) (r.append r2) (by rw[ze];omega),rfl,q _ I.fresh⟩
def Tq(K:Frag):R2:=λx y H Q=>∃l k xs,x=.ref l/\y=.int k/\RdK K H l xs/\-(2 ^ 63)<=k/\k<2 ^ 63/\xs.length * k.toNat<=sizeLine /\
 ∀p,H p=none->Q (.ref p) (upd H p (.lst (List.replicate k.toNat xs).flatten))
theorem Tt:OpR X (binaryOp .Mult) (Tq X.K):=by
 intro pins s σ H x y v u Q I rx ry h;obtain⟨l,k,xs,rfl,rfl,hH,h1,h2,hz,q⟩:=h;cases rx;obtain⟨t,rfl⟩:=ry;obtain⟨z,its,n,r,e⟩:=hH.ok I;have hl:=r.length
 have hlen:its.toArray.size * k.toNat<=sizeLine:=by rw[zq,<-hl];exact hz
 have hcap:¬its.toArray.size * k.toNat>(2 ^ 63 - 1) / 8:=by
  have:(sizeLine:Nat)<=(2 ^ 63 - 1) / 8:=by decide
  omega
 have hfit:¬(!Builtin.List.listFitsIndex k)=true:=by
  rw[fitsIndex_both h1 h2];exact zk
 have hlong:¬Builtin.List.listTooLong (its.toArray.size * k.toNat)=true:=by
  rw[FJ hlen];exact zk
 have hnew:List.foldl (λx1 x2=>x1++x2) #[] (List.replicate (if its.toArray.isEmpty=true then 0 else k.toNat) its.toArray)=(List.replicate k.toNat its).flatten.toArray:=by
  have f0:∀m:Nat,List.foldl (λx1 x2=>x1++x2) #[] (List.replicate m its.toArray)=(List.replicate m its).flatten.toArray:=λm=>by
   have:=foldl_rep its m []
   rw[zK] at this;exact this
  rw[f0]
  cases its with
  |nil=>simp
  |cons a r'=>rw[if_neg (by simp)]
 refine wpAny_binaryOp_repeat_ref (T:="list") (U:="int") (by decide) ⟨_,e,rfl⟩ (λs'=>typeIs_int s' k t) noFill_list_mul F.fills_int_mul F.slot_int_rmul repeat_list F.slot_int_index.lookup
  (call_meets F.slot_int_rmul (typeIs_int s k t) F.entry_int_rmul (F.args_int_rmul_2 _ _) (int___rmul___int_list k t l its.toArray n)
   ⟨e,rfl,⟨_,e,rfl⟩,call_meets F.slot_list_mul ⟨_,e,rfl⟩ F.entry_list_mul (F.args_list_mul_2 _ _) (AutoListH.list___mul___list_int_3 l its.toArray n k t hfit hcap hlong) ⟨e,?_⟩⟩)
 rw[hnew];exact⟨.ref _,_,I.lnew (t':=s.toks) (r.rep k.toNat) (by rw[len_rep,Nat.mul_comm];exact hz),rfl,q _ I.fresh⟩
def aN:D->D->Option D
 | .int i,.int j=>some (.int (i+j))
 | .int i,.bl k=>some (.int (i+b2i k))
 | .str a,.str b=>if a.length+b.length<=1000000 then some (.str (a++b)) else none
 | .lst a,.lst b=>if a.length+b.length<=1000000 then some (.lst (a++b)) else none
 | .tup a,.tup b=>if a.length+b.length<=1000000/\a≠[] then some (.tup (a++b)) else none
 | _,_=>none
instance (a:List D):Decidable (a≠[]):=match a with
 | []=>isFalse λh=>h rfl
 | _::_=>isTrue λh=>nomatch h
theorem bR:OpD X (binaryOp .Add) aN:=by
 intro pins s σ H x y v u Q I rx ry h;obtain⟨O,F,as,dx,dy,d,r,hx,hy,e,k⟩:=h
 cases dx with
 |int i =>
  cases(hx.rp rfl).unI
  cases dy with
  |int j =>
   cases(hy.rp rfl).unI;cases e;exact Pg pins s σ H _ _ v u Q I rx ry ⟨i,j,rfl,rfl,cA r k rfl Rp.int⟩
  |bl j =>
   cases(hy.rp rfl).unB;cases e;exact Px pins s σ H _ _ v u Q I rx ry ⟨i,j,rfl,rfl,cA r k rfl Rp.int⟩
  | _=>cases e
 |str a =>
  cases(hx.rp rfl).unS
  cases dy with
  |str b =>
   cases(hy.rp rfl).unS;simp only[aN] at e;split at e
   ·rename_i hz;cases e;refine PQ pins s σ H _ _ v u Q I rx ry ⟨S a,S b,rfl,rfl,by rw[gw,gw];exact fQ hz,?_⟩;rw[RX];exact cA r k rfl Rp.str
   ·cases e
  | _=>cases e
 |lst a =>
  obtain⟨p,xs,rfl,h1,h2⟩:=hx.list r.fh
  cases dy with
  |lst b =>
   obtain⟨p',ys,rfl,h3,h4⟩:=hy.list r.fh;simp only[aN] at e;split at e
   ·rename_i hz;cases e;exact Tp pins s σ H _ _ v u Q I rx ry ⟨p,p',xs,ys,rfl,rfl,h1,h3,by rw[h2.length,h4.length];exact fQ hz,λq hq=>qg r k hq (Rps.append h4 h2)⟩
   ·cases e
  | _=>cases e
 |tup a =>
  obtain⟨p,xs,rfl,h1,h2⟩:=(hx.rp rfl).unT
  cases dy with
  |tup b =>
   obtain⟨p',ys,rfl,h3,h4⟩:=(hy.rp rfl).unT;simp only[aN] at e;split at e
   ·rename_i hz;cases e
    have hxs:xs≠[]:=λz=>hz.2 (List.eq_nil_of_length_eq_zero (by rw[<-h2.length,z];rfl))
    refine QX pins s σ H _ _ v u Q I rx ry ⟨p,p',xs,ys,rfl,rfl,Same.seqT r.fh h1,Same.seqT r.fh h3,hxs,by rw[h2.length,h4.length];exact fQ hz.1,λz=>?_,λ_ q hq=>GR r k hq (Rps.append h4 h2)⟩;have hb:b=[]:=List.eq_nil_of_length_eq_zero (by rw[<-h4.length,z];rfl);subst hb;rw[zS] at k;exact cA r k rfl (hx.rp rfl)
   ·cases e
  | _=>cases e
 | _=>cases e
def gI(C:Int->Int->Bool)(f:Int->Int->Int):D->D->Option D
 | .int i,.int j=>if C i j=true then some (.int (f i j)) else none
 | _,_=>none
theorem xO{f:Value->Value->Sem Value}{Cp:Int->Int->Prop}{g:Int->Int->Int}{C:Int->Int->Bool}(h:OpR X f (rI Cp λi j=>.int (g i j)))(hc:∀i j,C i j=true->Cp i j):OpD X f (gI C g):=by
 intro pins s σ H x y v u Q I rx ry h';obtain⟨O,F,as,dx,dy,d,r,hx,hy,e,k⟩:=h'
 cases dx with
 |int i =>
  cases(hx.rp rfl).unI
  cases dy with
  |int j =>
   cases(hy.rp rfl).unI;simp only[gI] at e;split at e
   ·rename_i hC;cases e;exact h pins s σ H _ _ v u Q I rx ry ⟨i,j,rfl,rfl,hc i j hC,cA r k rfl Rp.int⟩
   ·cases e
  | _=>cases e
 | _=>cases e
def dO:D->D->Option D:=gI (λ_ _=>true) λi j=>i - j
theorem lZ:OpD X (binaryOp .Sub) dO:=by
 intro pins s σ H x y v u Q I rx ry h';obtain⟨O,F,as,dx,dy,d,r,hx,hy,e,k⟩:=h'
 cases dx with
 |int i =>
  cases(hx.rp rfl).unI
  cases dy with
  |int j =>
   cases(hy.rp rfl).unI;cases e;exact Ph pins s σ H _ _ v u Q I rx ry ⟨i,j,rfl,rfl,cA r k rfl Rp.int⟩
  | _=>cases e
 | _=>cases e
def nR(i:Int):Bool:=decide (-(2 ^ 64)<i)&&decide (i<2 ^ 64)
theorem xP{i:Int}(h:nR i=true):-(2 ^ 64)<i/\i<2 ^ 64:=by
 unfold nR at h;rw[zn,decide_eq_true_eq,decide_eq_true_eq] at h;exact h
def cF:D->D->Option D
 | .int i,.int j=>if(nR i || nR j)=true then some (.int (i * j)) else none
 | .str l,.int n=>if -1000000<n/\n<1000000/\l.length * n.toNat<=16777216 then some (.str (List.replicate n.toNat l).flatten) else none
 | .lst l,.int n=>if -1000000<n/\n<1000000/\l.length * n.toNat<=1000000 then some (.lst (List.replicate n.toNat l).flatten) else none
 | _,_=>none
theorem ir:OpD X (binaryOp .Mult) cF:=by
 intro pins s σ H x y v u Q I rx ry h;obtain⟨O,F,as,dx,dy,d,r,hx,hy,e,k⟩:=h
 cases dx with
 |int i =>
  cases(hx.rp rfl).unI
  cases dy with
  |int j =>
   cases(hy.rp rfl).unI;simp only[cF] at e;split at e
   ·rename_i hz;cases e;refine Pj pins s σ H _ _ v u Q I rx ry ⟨i,j,rfl,rfl,?_,cA r k rfl Rp.int⟩;rw[Bool.or_eq_true] at hz
    rcases hz with z | z
    ·exact .inl (xP z)
    ·exact .inr (xP z)
   ·cases e
  | _=>cases e
 |str l =>
  cases(hx.rp rfl).unS
  cases dy with
  |int n =>
   cases(hy.rp rfl).unI;simp only[cF] at e;split at e
   ·rename_i hz;cases e;exact Sx pins s σ H _ _ v u Q I rx ry ⟨l,n,rfl,rfl,hz.1,hz.2.1,hz.2.2,cA r k rfl Rp.str⟩
   ·cases e
  | _=>cases e
 |lst l =>
  obtain⟨p,xs,rfl,h1,h2⟩:=hx.list r.fh
  cases dy with
  |int n =>
   cases(hy.rp rfl).unI;simp only[cF] at e;split at e
   ·rename_i hz;cases e;exact Tt pins s σ H _ _ v u Q I rx ry ⟨p,n,xs,rfl,rfl,h1,by omega,by omega,by rw[h2.length];exact fQ hz.2.2,λq hq=>qg r k hq (h2.rep _)⟩
   ·cases e
  | _=>cases e
 | _=>cases e
def bw:D->D->Option D:=gI (λ_ j=>decide (0<j)) λi j=>i % j
theorem dh:OpD X (binaryOp .Mod) bw:=xO Pn λ_ _ h=>jn h
def du:D->D->Option D:=gI (λ_ j=>decide (0<j)&&decide (j<1073741824)) λi j=>i / j
theorem nT:OpD X (binaryOp .FloorDiv) du:=xO Pk λi j h=>by
 rw[zn,decide_eq_true_eq,decide_eq_true_eq] at h;exact h
def d7:D->D->Option D:=gI (λi j=>decide (0<=j)&&(decide (j<=1000000)&&nR i)) λi j=>i ^ j.toNat
theorem nU:OpD X (binaryOp .Pow) d7:=xO Pq λi j h=>by
 rw[zn,zn,decide_eq_true_eq,decide_eq_true_eq] at h
 have:=xP h.2.2
 exact⟨h.1,h.2.1,by omega⟩
def mUn(g:D->Option D)(m:M D):M D:=λρ O=>(m ρ O).bind λd O1=>match g (aZ O1 d) with
 |some y=>.ok y O1
 |none=>.no
def jV:D->Option D
 | .int i=>some (.int (-i))
 | _=>none
theorem xQ{md:List Md}{P:Pt}{a:Expr}{pos:Pos}{m:M D}(h:SE X md P a m):OE X md P (.UnaryOp .USub a pos) (mUn jV m):=(O9 Pu h).imp λσ H Q q=>by
 obtain⟨ρ,O,F,as,d,O',r,s,e,k⟩:=q;obtain⟨x,O1,e1,e⟩:=Res.bind_ok e;refine⟨ρ,_,F,as,_,_,r,s,e1,λv H1 F1 as1 g1 r1 hv=>?_⟩
 cases ed:aZ O1 x with
 |int i =>
  rw[ed] at e;cases e
  have:=Sv.lk hv r1
  rw[ed] at this;exact⟨i,(this.rp rfl).unI,k _ H1 F1 as1 g1 r1 (.inl ⟨rfl,Rp.int⟩)⟩
 | _=>rw[ed] at e;cases e
def gCI(f:Int->Int->Bool):D->D->Option D
 | .int i,.int j=>some (.bl (f i j))
 | _,_=>none
theorem GX{f:Value->Value->Sem Value}{g:Int->Int->Bool}(h:OpR X f (rI0 λi j=>.bl (g i j))):OpD X f (gCI g):=by
 intro pins s σ H x y v u Q I rx ry h';obtain⟨O,F,as,dx,dy,d,r,hx,hy,e,k⟩:=h'
 cases dx with
 |int i =>
  cases(hx.rp rfl).unI
  cases dy with
  |int j =>
   cases(hy.rp rfl).unI;cases e;exact h pins s σ H _ _ v u Q I rx ry ⟨i,j,rfl,rfl,cA r k rfl Rp.bl⟩
  | _=>cases e
 | _=>cases e
def gLt:D->D->Option D:=gCI λi j=>decide (i<j)
def gGt:D->D->Option D:=gCI λi j=>decide (j<i)
def gGe:D->D->Option D:=gCI λi j=>decide (j<=i)
def gLe:D->D->Option D
 | .int i,.int j=>some (.bl (decide (i<=j)))
 | .str a,.str b=>some (.bl (!decide (b<a)))
 | _,_=>none
theorem tY:OpD X (compareOp .LtE) gLe:=by
 intro pins s σ H x y v u Q I rx ry h';obtain⟨O,F,as,dx,dy,d,r,hx,hy,e,k⟩:=h'
 cases dx with
 |int i =>
  cases(hx.rp rfl).unI
  cases dy with
  |int j =>
   cases(hy.rp rfl).unI;cases e;exact Pz pins s σ H _ _ v u Q I rx ry ⟨i,j,rfl,rfl,cA r k rfl Rp.bl⟩
  | _=>cases e
 |str a =>
  cases(hx.rp rfl).unS
  cases dy with
  |str b =>
   cases(hy.rp rfl).unS;cases e;refine RZ pins s σ H _ _ v u Q I rx ry ⟨S a,S b,rfl,rfl,?_⟩;rw[nF,nF];exact cA r k rfl Rp.bl
  | _=>cases e
 | _=>cases e
theorem tZ:OpD X (compareOp .Lt) gLt:=GX Py
theorem xR:OpD X (compareOp .Gt) gGt:=GX PB
mutual
def toP:D->PyData
 | .non=>.none
 | .bl b=>.bool b
 | .int i=>.int i
 | .str l=>.str (S l)
 | .lst ds=>.list (jD ds)
 | .tup ds=>.tuple (jD ds)
 | .dic _ _=>.none
 | .ob _=>.none
def jD:List D->List PyData
 | []=>[]
 |d::ds=>toP d::jD ds
end
mutual
def dw:D->Bool
 | .lst ds=>jW ds
 | .tup ds=>jW ds
 | .dic _ _=>false
 | .ob _=>false
 | _=>true
def jW:List D->Bool
 | []=>true
 |d::ds=>dw d&&jW ds
end
section
variable {K:Frag}{F:Hp}{as:List Addr}
mutual
theorem Rp.rep:∀(d:D) {v:V},dw d=true->Rp K F as v d->Rep K F v (toP d)
 | .non,v,_,h=>by rw[toP,Rep];exact h.unN
 | .bl b,v,_,h=>by rw[toP,Rep];exact h.unB
 | .int i,v,_,h=>by rw[toP,Rep];exact h.unI
 | .str x,v,_,h=>by rw[toP,Rep];exact h.unS
 | .lst ds,v,hp,h=>by
  obtain⟨a,xs,h1,h2,h3⟩:=h.unL;rw[toP,Rep];rw[dw] at hp;exact⟨a,xs,h1,h2.sq,Rps.rep' ds hp h3⟩
 | .tup ds,v,hp,h=>by
  obtain⟨a,xs,h1,h2,h3⟩:=h.unT;rw[toP,Rep];rw[dw] at hp;exact⟨a,xs,h1,h2,Rps.rep' ds hp h3⟩
 | .dic _ _,v,hp,h=>by rw[dw] at hp;cases hp
 | .ob _,v,hp,h=>by rw[dw] at hp;cases hp
theorem Rps.rep':∀(ds:List D) {xs:List V},jW ds=true->Rps K F as xs ds->cH K F xs (jD ds)
 | [],xs,_,h=>by rw[h.un0,jD];exact cH.nil
 |d::ds,xs,hp,h=>by
  obtain⟨x,r,rfl,h2,h3⟩:=h.un;rw[jW,zn] at hp;rw[jD];exact cH.cons (Rp.rep d hp.1 h2) (Rps.rep' ds hp.2 h3)
end
theorem Lk.rep{H:Hp}{d:D}{v:V}(h:Lk K H F as v d)(fh:Same F H)(hp:dw d=true):Rep K H v (toP d):=by
 rcases h with h | ⟨a,xs,ds,rfl,rfl,h1,h2⟩
 ·exact Rep.mono fh _ (Rp.rep d hp h)
 ·rw[dw] at hp;rw[toP,Rep];exact⟨a,xs,rfl,.inl (.inl h1),cH.mono fh _ (Rps.rep' ds hp h2)⟩
end
def okE(d:D):Bool:=dw d&&okD (toP d)
def dz(a b:D):Bool:=PyData.eqv (toP a) (toP b)
def gEq:D->D->Option D
 | .int i,.int j=>some (.bl (decide (i=j)))
 | .str a,.str b=>some (.bl (decide (a=b)))
 | .bl a,.bl b=>some (.bl (decide (a=b)))
 |a,b=>if(okE a&&okE b)=true then some (.bl (dz a b)) else none
def gNe:D->D->Option D
 | .int i,.int j=>some (.bl (!decide (i=j)))
 | .str a,.str b=>some (.bl (!decide (a=b)))
 | .bl a,.bl b=>some (.bl (!decide (a=b)))
 |a,b=>if(okE a&&okE b)=true then some (.bl (!dz a b)) else none
theorem GZ(a b:List Nat):decide (V.str (S a)=V.str (S b))=decide (a=b):=by
 by_cases h:a=b
 ·subst h;simp
 ·rw[zo h,zo];intro z;exact h (tO (V.str.inj z))
theorem G4(a b:Int):decide (V.int a=V.int b)=decide (a=b):=by
 by_cases h:a=b
 ·subst h;simp
 ·rw[zo h,zo];intro z;exact h (V.int.inj z)
theorem G5(a b:Bool):decide (V.bl a=V.bl b)=decide (a=b):=by
 cases a<;>cases b<;>rfl
theorem Tu{a b d:D}(h:gEq a b=some d):(∃i j,a=.int i/\b=.int j/\d=.bl (decide (i=j)))\/(∃i j,a=.str i/\b=.str j/\d=.bl (decide (i=j)))\/(∃i j,a=.bl i/\b=.bl j/\d=.bl (decide (i=j))) \/
  (okE a=true/\okE b=true/\d=.bl (dz a b)):=by
 unfold gEq at h;split at h
 ·cases h;exact .inl ⟨_,_,rfl,rfl,rfl⟩
 ·cases h;exact .inr (.inl ⟨_,_,rfl,rfl,rfl⟩)
 ·cases h;exact .inr (.inr (.inl ⟨_,_,rfl,rfl,rfl⟩))
 ·split at h
  ·rename_i hk;rw[zn] at hk;cases h;exact .inr (.inr (.inr ⟨hk.1,hk.2,rfl⟩))
  ·cases h
theorem Tv{a b d:D}(h:gNe a b=some d):(∃i j,a=.int i/\b=.int j/\d=.bl (!decide (i=j)))\/(∃i j,a=.str i/\b=.str j/\d=.bl (!decide (i=j)))\/(∃i j,a=.bl i/\b=.bl j/\d=.bl (!decide (i=j))) \/
  (okE a=true/\okE b=true/\d=.bl (!dz a b)):=by
 unfold gNe at h;split at h
 ·cases h;exact .inl ⟨_,_,rfl,rfl,rfl⟩
 ·cases h;exact .inr (.inl ⟨_,_,rfl,rfl,rfl⟩)
 ·cases h;exact .inr (.inr (.inl ⟨_,_,rfl,rfl,rfl⟩))
 ·split at h
  ·rename_i hk;rw[zn] at hk;cases h;exact .inr (.inr (.inr ⟨hk.1,hk.2,rfl⟩))
  ·cases h
theorem gb{k:Nat}(hr:bG k X.A):OpD X (compareOp .Eq) gEq:=by
 intro pins s σ H x y v u Q I rx ry h';obtain⟨O,F,as,dx,dy,d,r,hx,hy,e,k⟩:=h'
 rcases Tu e with⟨i,j,rfl,rfl,rfl⟩ | ⟨i,j,rfl,rfl,rfl⟩ | ⟨i,j,rfl,rfl,rfl⟩ | ⟨h1,h2,rfl⟩
 ·cases(hx.rp rfl).unI;cases(hy.rp rfl).unI;refine wL pins s σ H _ _ v u Q I rx ry ⟨rfl,?_⟩;rw[G4];exact cA r k rfl Rp.bl
 ·cases(hx.rp rfl).unS;cases(hy.rp rfl).unS;refine wL pins s σ H _ _ v u Q I rx ry ⟨rfl,?_⟩;rw[GZ];exact cA r k rfl Rp.bl
 ·cases(hx.rp rfl).unB;cases(hy.rp rfl).unB;refine wL pins s σ H _ _ v u Q I rx ry ⟨rfl,?_⟩;rw[G5];exact cA r k rfl Rp.bl
 ·unfold okE at h1 h2;rw[zn] at h1 h2;exact Gg hr pins s σ H _ _ v u Q I rx ry ⟨toP dx,toP dy,hx.rep r.fh h1.1,hy.rep r.fh h2.1,h1.2,h2.2,cA r k rfl Rp.bl⟩
theorem jX{k:Nat}(hr:bG k X.A):OpD X (compareOp .NotEq) gNe:=by
 intro pins s σ H x y v u Q I rx ry h';obtain⟨O,F,as,dx,dy,d,r,hx,hy,e,k⟩:=h'
 rcases Tv e with⟨i,j,rfl,rfl,rfl⟩ | ⟨i,j,rfl,rfl,rfl⟩ | ⟨i,j,rfl,rfl,rfl⟩ | ⟨h1,h2,rfl⟩
 ·cases(hx.rp rfl).unI;cases(hy.rp rfl).unI;refine wM pins s σ H _ _ v u Q I rx ry ⟨rfl,?_⟩;rw[G4];exact cA r k rfl Rp.bl
 ·cases(hx.rp rfl).unS;cases(hy.rp rfl).unS;refine wM pins s σ H _ _ v u Q I rx ry ⟨rfl,?_⟩;rw[GZ];exact cA r k rfl Rp.bl
 ·cases(hx.rp rfl).unB;cases(hy.rp rfl).unB;refine wM pins s σ H _ _ v u Q I rx ry ⟨rfl,?_⟩;rw[G5];exact cA r k rfl Rp.bl
 ·unfold okE at h1 h2;rw[zn] at h1 h2;exact Gh hr pins s σ H _ _ v u Q I rx ry ⟨toP dx,toP dy,hx.rep r.fh h1.1,hy.rep r.fh h2.1,h1.2,h2.2,cA r k rfl Rp.bl⟩
def toV:D->V
 | .bl b=>.bl b
 | .int i=>.int i
 | .str l=>.str (S l)
 | _=>.non
def jY:D->Bool
 | .non=>true
 | .bl _=>true
 | .int _=>true
 | .str _=>true
 | _=>false
def eqF(x y:D):Bool:=eqV (toV x) (toV y)
theorem Rp.flat{K:Frag}{F:Hp}{as:List Addr}{v:V}{d:D}(h:Rp K F as v d)(hf:jY d=true):v=toV d/\jx v=true:=by
 cases d with
 |non=>rw[h.unN];exact⟨rfl,rfl⟩
 |bl b=>rw[h.unB];exact⟨rfl,rfl⟩
 |int b=>rw[h.unI];exact⟨rfl,rfl⟩
 |str b=>rw[h.unS];exact⟨rfl,rfl⟩
 | _=>cases hf
theorem Rps.flat{K:Frag}{F:Hp}{as:List Addr}:∀{ds:List D}{xs:List V},Rps K F as xs ds->ds.all jY=true->xs=ds.map toV/\xs.all jx=true
 | [],xs,h,_=>by rw[h.un0];exact⟨rfl,rfl⟩
 |d::ds,xs,h,hf=>by
  obtain⟨x,r,rfl,h2,h3⟩:=h.un;rw[List.all_cons,zn] at hf;obtain⟨e1,e2⟩:=h2.flat hf.1;obtain⟨e3,e4⟩:=Rps.flat h3 hf.2;exact⟨by rw[zj,<-e1,<-e3],by rw[List.all_cons,e2,e4];rfl⟩
def gIn(neg:Bool):D->D->Option D
 | .str [c],.str l=>some (.bl (neg ^^ decide (c∈l)))
 |x,.lst ds=>if(jY x&&ds.all jY)=true then some (.bl (neg ^^ ds.any λy=>eqF y x)) else none
 |x,.tup ds=>if(jY x&&ds.all jY)=true then some (.bl (neg ^^ ds.any λy=>eqF y x)) else none
 | _,_=>none
theorem Tw{neg:Bool}{a b d:D}(h:gIn neg a b=some d):(∃c l,a=.str [c]/\b=.str l/\d=.bl (neg ^^ decide (c∈l)))\/(∃ds,(b=.lst ds\/b=.tup ds)/\jY a=true/\ds.all jY=true/\d=.bl (neg ^^ ds.any λy=>eqF y a)):=by
 unfold gIn at h;split at h
 ·cases h;exact .inl ⟨_,_,rfl,rfl,rfl⟩
 ·split at h
  ·rename_i hk;rw[zn] at hk;cases h;exact .inr ⟨_,.inl rfl,hk.1,hk.2,rfl⟩
  ·cases h
 ·split at h
  ·rename_i hk;rw[zn] at hk;cases h;exact .inr ⟨_,.inr rfl,hk.1,hk.2,rfl⟩
  ·cases h
 ·cases h
theorem Tz{x:D}{ds:List D}:inV (toV x) (ds.map toV)=ds.any λy=>eqF y x:=by
 unfold inV;rw[List.any_map];rfl
theorem TF{K:Frag}{mg:Str->Option Value}{H F:Hp}{as:List Addr}{O:ao}{v:V}{b:D}{ds:List D}(r:RlO K mg O H F as)(hy:Lk K H F as v b)(hb:b=.lst ds\/b=.tup ds):∃p xs,v=.ref p/\(SqL K H p xs\/SqT K H p xs)/\Rps K F as xs ds:=by
 rcases hb with rfl | rfl
 ·obtain⟨p,xs,e,h1,h2⟩:=hy.list r.fh;exact⟨p,xs,e,.inl h1.sq,h2⟩
 ·obtain⟨p,xs,e,h1,h2⟩:=(hy.rp rfl).unT;exact⟨p,xs,e,.inr (Same.seqT r.fh h1),h2⟩
theorem TJ{d:D}(h:jY d=true):jz d=true:=by cases d<;>first | rfl | cases h
theorem G6:OpD X (compareOp .In) (gIn false):=by
 intro pins s σ H x y v u Q I rx ry h';obtain⟨O,F,as,dx,dy,d,r,hx,hy,e,k⟩:=h'
 rcases Tw e with⟨c,l,rfl,rfl,rfl⟩ | ⟨ds,hb,h1,h2,rfl⟩
 ·cases(hx.rp rfl).unS;cases(hy.rp rfl).unS;refine R0 pins s σ H _ _ v u Q I rx ry ⟨c,l,rfl,rfl,?_⟩;rw[Bool.false_xor] at k;exact cA r k rfl Rp.bl
 ·obtain⟨p,xs,rfl,h3,h4⟩:=TF r hy hb;obtain⟨e1,e2⟩:=(hx.rp (TJ h1)).flat h1;obtain⟨e3,e4⟩:=h4.flat h2;refine Rg pins s σ H _ _ v u Q I rx ry ⟨p,xs,rfl,h3,e2,e4,?_⟩;rw[if_neg zk,e1,e3,Tz];rw[Bool.false_xor] at k;exact cA r k rfl Rp.bl
def gIx:D->D->Option D
 | .lst ds,.int i=>atI ds i
 | .tup ds,.int i=>atI ds i
 | .str l,.int i=>if l.length<=1000000 then(atI l i).map λc=>.str [c] else none
 | _,_=>none
theorem Rps.atI{K:Frag}{F:Hp}{as:List Addr}{xs:List V}{ds:List D}{i:Int}{d:D}(h:Rps K F as xs ds)(e:atI ds i=some d):∃v,L2.atI xs i=some v/\Rp K F as v d:=by
 unfold L2.atI at e ⊢;rw[h.length]
 cases q:ixN ds.length i with
 |none=>rw[q] at e;cases e
 |some j =>
  rw[q] at e;exact h.get' e
def rDv(K:Frag)(mg:Str->Option Value)(g:D->D->Option D):R2:=λx y H Q=>∃O F as dx dy d,RlO K mg O H F as/\Lk K H F as x dx/\Lk K H F as y dy/\g dx dy=some d/\∀v',Rp K F as v' d->Q v' H
theorem TQ:IxR X (rDv X.K X.mg gIx):=by
 intro value slice pins s σ H x y v u Q I rx ry h' hsb;obtain⟨O,F,as,dx,dy,d,r,hx,hy,e,k⟩:=h'
 cases dx with
 |lst ds =>
  obtain⟨p,xs,rfl,h1,h2⟩:=hx.list r.fh
  cases dy with
  |int i =>
   cases(hy.rp rfl).unI;obtain⟨z,e1,e2⟩:=h2.atI e;exact Q5 value slice pins s σ H _ _ v u Q I rx ry ⟨p,xs,i,z,rfl,rfl,h1.sq,e1,k z e2⟩ hsb
  | _=>cases e
 |tup ds =>
  obtain⟨p,xs,rfl,h1,h2⟩:=(hx.rp rfl).unT
  cases dy with
  |int i =>
   cases(hy.rp rfl).unI;obtain⟨z,e1,e2⟩:=h2.atI e;exact Q6 value slice pins s σ H _ _ v u Q I rx ry ⟨p,xs,i,z,rfl,rfl,Same.seqT r.fh h1,e1,k z e2⟩ hsb
  | _=>cases e
 |str l =>
  cases(hx.rp rfl).unS
  cases dy with
  |int i =>
   cases(hy.rp rfl).unI;simp only[gIx] at e;split at e
   ·rename_i hz
    cases q:L2.atI l i with
    |none=>rw[q] at e;cases e
    |some c =>
     rw[q] at e;cases e;exact Q7 value slice pins s σ H _ _ v u Q I rx ry ⟨S l,i,c,rfl,rfl,by rw[gw];exact fQ hz,by rw[nF];exact q,k _ Rp.str⟩ hsb
   ·cases e
  | _=>cases e
 | _=>cases e
theorem bf{md:List Md}{P:Pt}{a b:Expr}{pos:Pos}{ma mb:M D}(ha:SE X md P a ma)(hb:SE X md P b mb)(hs:sZ b:=by intro _ _;rfl):VE X md P (.Subscript a b pos) (aj gIx ma mb):=(QZ TQ ha hb hs).imp λσ H Q h=>by
 obtain⟨ρ,O,F,as,d,O',r,sl,e,k⟩:=h;obtain⟨x,O1,e1,e⟩:=Res.bind_ok e;obtain⟨y,O2,e2,e⟩:=Res.bind_ok e;split at e
 ·rename_i d' hg;cases e;refine⟨ρ,_,F,as,_,_,r,sl,e1,λv H1 F1 as1 g1 r1 hv=>?_⟩;refine⟨ρ,_,F1,as1,_,_,r1,sl.step g1,e2,λu H2 F2 as2 g2 r2 hu=>?_⟩;exact⟨_,F2,as2,_,_,_,r2,Sv.lk (Sv.gr hv g2) r2,Sv.lk hu r2,hg,λv' hw=>k v' H2 F2 as2 (g1.trans g2) r2 hw⟩
 ·cases e
def tMO(K:Frag)(mg:Str->Option Value)(md:List Md)(P:Pt)(m:M (Option Int)):TO:=λσ H Q =>
 ∃ρ O F as b O',RlO K mg O H F as/\SlO K md P ρ σ H F as/\m ρ O=.ok b O'/\∀H' F' as',Gr H F as H' F' as'->RlO K mg O' H' F' as'->Q b H'
def VO(X:Cx)(md:List Md)(P:Pt)(e:Option Expr)(m:M (Option Int)):Prop:=PO X e (tMO X.K X.mg md P m)
theorem PO.imp{e:Option Expr}{t t':TO}(h:PO X e t)(k:∀σ H Q,t' σ H Q->t σ H Q):PO X e t':=λpins s σ H Q I q=>h pins s σ H Q I (k σ H Q q)
def moN:M (Option Int):=λ_ O=>.ok none O
def moS(m:M D):M (Option Int):=λρ O=>(m ρ O).bind λd O1=>match d with
 | .int i=>.ok (some i) O1
 | _=>.no
theorem qi{md:List Md}{P:Pt}:VO X md P none moN:=QQ.imp λσ H Q q=>by
 obtain⟨ρ,O,F,as,d,O',r,s,e,k⟩:=q;cases e;exact k H F as Gr.refl r
theorem iM{md:List Md}{P:Pt}{e:Expr}{m:M D}(h:VE X md P e m):VO X md P (some e) (moS m):=(QR h).imp λσ H Q q=>by
 obtain⟨ρ,O,F,as,d,O',r,s,e,k⟩:=q;obtain⟨x,O1,e1,e⟩:=Res.bind_ok e
 cases x with
 |int i =>
  cases e;exact⟨ρ,_,F,as,_,_,r,s,e1,λv H1 F1 as1 g1 r1 hv=>⟨i,Rp.unI hv,k H1 F1 as1 g1 r1⟩⟩
 | _=>cases e
def gSl(d:D)(lo hi:Option Int):Option D:=match d with
 | .lst ds=>some (.lst (dX ds lo hi))
 | .tup ds=>some (.tup (dX ds lo hi))
 | .str l=>if l.length<=16777216 then some (.str (dX l lo hi)) else none
 | _=>none
def TV(K:Frag)(mg:Str->Option Value):V->Option Int->Option Int->Hp->VK->Prop:=λx lo hi H Q=>∃O F as dx d,RlO K mg O H F as/\Lk K H F as x dx/\gSl dx lo hi=some d /\
 ∀v' H' F',Gr H F as H' F' as->RlO K mg O H' F' as->Ow K (λa=>H a=none) H' F' as v' d->Q v' H'
theorem Rps.cut{K:Frag}{F:Hp}{as:List Addr}{xs:List V}{ds:List D}(h:Rps K F as xs ds)(lo hi:Option Int):Rps K F as (jP xs lo hi) (dX ds lo hi):=by
 unfold jP dX;rw[h.length];exact(h.drop _).take _
theorem TX:SlR X (TV X.K X.mg):=by
 intro pins s σ H x v vl vu lo hi sl Q I rx hs pl pu h;obtain⟨O,F,as,dx,d,r,hx,e,k⟩:=h
 cases dx with
 |lst ds =>
  obtain⟨p,xs,rfl,h1,h2⟩:=hx.list r.fh;cases e;exact Rc pins s σ H _ v vl vu lo hi sl Q I rx hs pl pu ⟨p,xs,rfl,h1.sq,λq hq=>qg r k hq (h2.cut lo hi)⟩
 |tup ds =>
  obtain⟨p,xs,rfl,h1,h2⟩:=(hx.rp rfl).unT;cases e;refine Sd X.K rfl pins s σ H _ v vl vu lo hi sl Q I rx hs pl pu ⟨p,xs,rfl,Same.seqT r.fh h1,λz=>?_,λ_ q hq=>GR r k hq (h2.cut lo hi)⟩
  have:dX ds lo hi=ds:=by
   unfold dX;rw[<-h2.length,z.1,z.2,List.drop_zero,Nat.sub_zero,h2.length,List.take_length]
  rw[this] at k;exact cA r k rfl (hx.rp rfl)
 |str l =>
  cases(hx.rp rfl).unS;simp only[gSl] at e;split at e
  ·rename_i hz;cases e;exact R8 pins s σ H _ v vl vu lo hi sl Q I rx hs pl pu ⟨l,rfl,zG hz (Nat.le_of_eq sizeLine_eq.symm),cA r k rfl Rp.str⟩
  ·cases e
 | _=>cases e
def mSl(m:M D)(lo hi:M (Option Int)):M D:=λρ O=>(m ρ O).bind λd O1=>(lo ρ O1).bind λl O2=>(hi ρ O2).bind λh O3=>match gSl (aZ O3 d) l h with
 |some y=>.ok y O3
 |none=>.no
end
section
variable {X:Cx}{md:List Md}{P:Pt}{R:RR}
theorem lA{e:Expr}{lo hi:Option Expr}{p2 pos:Pos}{m:M D}{ml mh:M (Option Int)}(he:SE X md P e m)(hl:VO X md P lo ml)(hh:VO X md P hi mh):OE X md P (.Subscript e (.Slice lo hi none p2) pos) (mSl m ml mh):=(QS TX he hl hh).imp λσ H Q q=>by
 obtain⟨ρ,O,F,as,d,O',r,s,e,k⟩:=q;obtain⟨x,O1,e1,e⟩:=Res.bind_ok e;obtain⟨l,O2,e2,e⟩:=Res.bind_ok e;obtain⟨h,O3,e3,e⟩:=Res.bind_ok e;split at e
 ·rename_i y hg;cases e;refine⟨ρ,_,F,as,_,_,r,s,e1,λv H1 F1 as1 g1 r1 hv=>?_⟩;refine⟨ρ,_,F1,as1,_,_,r1,s.step g1,e2,λH2 F2 as2 g2 r2=>?_⟩;have g12:=g1.trans g2;refine⟨ρ,_,F2,as2,_,_,r2,s.step g12,e3,λH3 F3 as3 g3 r3=>?_⟩;have g13:=g12.trans g3;exact⟨_,F3,as3,_,_,r3,Sv.lk (Sv.gr (Sv.gr hv g2) g3) r3,hg,λv' H' F' g' r' hw=>k v' H' F' as3 (g13.trans g') r' (dG _ _ _ _ _ _ _ (λa ha=>g13.dm a ha) hw)⟩
 ·cases e
def Lks(K:Frag)(H F:Hp)(as:List Addr):List V->List D->Prop
 | [],[]=>True
 |v::vs,d::ds=>Lk K H F as v d/\Lks K H F as vs ds
 | _,_=>False
theorem cW.lks{K:Frag}{mg:Str->Option Value}{O:ao}{H F:Hp}{as:List Addr}(r:RlO K mg O H F as):∀{ms:List Md}{vs:List V}{ds:List D},cW K H F as ms vs ds->Lks K H F as vs (ds.map (aZ O))
 | [],[],[],_=>trivial
 |m::ms,v::vs,d::ds,h=>by
  refine⟨?_,cW.lks r h.2⟩
  have h1:Sv K H F as v d:=by
   cases m with
   |v=>exact .inl h.1
   |s=>exact h.1
   |o=>exact h.1
  exact h1.lk r
 | [],[],_::_,h=>h.elim
 | [],_::_,[],h=>h.elim
 | [],_::_,_::_,h=>h.elim
 | _::_,[],[],h=>h.elim
 | _::_,[],_::_,h=>h.elim
 | _::_,_::_,[],h=>h.elim
def rC(K:Frag)(mg:Str->Option Value)(g:List D->Option D):List V->Hp->VK->Prop:=λvs H Q=>∃O F as ds d,RlO K mg O H F as/\Lks K H F as vs ds/\g ds=some d /\
 ∀v' H' F',Gr H F as H' F' as->RlO K mg O H' F' as->Ow K (λa=>H a=none) H' F' as v' d->Q v' H'
abbrev jZ(X:Cx)(f:Value)(g:List D->Option D):Prop:=iC X f (rC X.K X.mg g)
def aX(g:List D->Option D)(ma:M (List D)):M D:=λρ O=>(ma ρ O).bind λds O1=>match g (ds.map (aZ O1)) with
 |some d=>.ok d O1
 |none=>.no
theorem t7{K:Frag}{mg:Str->Option Value}{g:List D->Option D}{ms:List Md}{ma:M (List D)}{σ:St}{H:Hp}{Q:VK}(q:tM K mg md P (rO K) (aX g ma) σ H Q):tCB (rC K mg g) (tMA K mg md P ms ma) σ H Q:=by
 obtain⟨ρ,O,F,as,d,O',r,s,e,k⟩:=q;obtain⟨ds,O1,e1,e⟩:=Res.bind_ok e;split at e
 ·rename_i y hg;cases e;refine⟨ρ,_,F,as,_,_,r,s,e1,λvs H1 F1 as1 g1 r1 hv=>?_⟩;exact⟨_,F1,as1,_,_,r1,hv.lks r1,hg,λv' H' F' g' r' hw=>k v' H' F' as1 (g1.trans g') r' (dG _ _ _ _ _ _ _ (λa ha=>g1.dm a ha) hw)⟩
 ·cases e
theorem dU{x:Str}{p pos:Pos}{e:Expr}{es:List Expr}{id:String}{g:List D->Option D}{ms:List Md}{ma:M (List D)}(hc:jZ X (.builtin id) g)(hm:X.mg x=none)(ha:AE X md P ms (e::es) ma)(hv:bootBuiltins x=some (.builtin id):=by decide +kernel)(hg:Gl X x:=by rfl)
  (hn:x≠"__name__":=by decide) (hdb:(x == ("__debug__":Str))=false:=by decide) (he:starEach (e::es) X.env=(false,eval e X.env)::starEach es X.env:=by exact cD rfl) (hpl:(backTo pos (starEach es X.env)).any (·.1)=false:=by exact eO rfl):
  OE X md P (.Call (.Name x p) (e::es) [] pos) (aX g ma):=(Fp hc hg hm hv ha hn hdb he hpl).imp λ_ _ _ q=>t7 q
theorem t8{x:Str}{p pos:Pos}{e:Expr}{es:List Expr}{T:String}{g:List D->Option D}{ms:List Md}{ma:M (List D)}(hc:jZ X (.type T) g)(hm:X.mg x=none)(ha:AE X md P ms (e::es) ma)(hv:bootBuiltins x=some (.type T):=by decide +kernel)(hg:Gl X x:=by rfl)
  (hn:x≠"__name__":=by decide) (hdb:(x == ("__debug__":Str))=false:=by decide) (he:starEach (e::es) X.env=(false,eval e X.env)::starEach es X.env:=by exact cD rfl) (hpl:(backTo pos (starEach es X.env)).any (·.1)=false:=by exact eO rfl):
  OE X md P (.Call (.Name x p) (e::es) [] pos) (aX g ma):=(QG hc hg hm hv ha hn hdb he hpl).imp λ_ _ _ q=>t7 q
theorem Lks.one{K:Frag}{H F:Hp}{as:List Addr}{vs:List V}{d:D}(h:Lks K H F as vs [d]):∃v,vs=[v]/\Lk K H F as v d:=by
 cases vs with
 |nil=>exact h.elim
 |cons v vs =>
  cases vs with
  |nil=>exact⟨v,rfl,h.1⟩
  |cons u us=>exact h.2.elim
theorem Lks.two{K:Frag}{H F:Hp}{as:List Addr}{vs:List V}{d e:D}(h:Lks K H F as vs [d,e]):∃v u,vs=[v,u]/\Lk K H F as v d/\Lk K H F as u e:=by
 cases vs with
 |nil=>exact h.elim
 |cons v vs =>
  cases vs with
  |nil=>exact h.2.elim
  |cons u us =>
   cases us with
   |nil=>exact⟨v,u,rfl,h.1,h.2.1⟩
   |cons w ws=>exact h.2.2.elim
def bF:List D->Option D
 | [.str l]=>if l.length<=1000000 then some (.int l.length) else none
 | [.lst ds]=>some (.int ds.length)
 | [.tup ds]=>some (.int ds.length)
 | _=>none
theorem fC:jZ X (.builtin "len") bF:=by
 intro pins s σ H xs us Q I rs h;obtain⟨O,F,as,ds,d,r,hvs,e,k⟩:=h;unfold bF at e;split at e
 ·rename_i l;obtain⟨v,rfl,hv⟩:=hvs.one;split at e
  ·rename_i hz;cases e;cases(hv.rp rfl).unS;refine call_len pins s σ H _ us Q I rs ⟨_,_,rfl,⟨by rw[gw];exact fQ hz,rfl⟩,?_⟩;rw[gw];exact cA r k rfl Rp.int
  ·cases e
 ·rename_i l;obtain⟨v,rfl,hv⟩:=hvs.one;cases e;obtain⟨p,xs,rfl,h1,h2⟩:=hv.list r.fh;refine call_len pins s σ H _ us Q I rs ⟨_,_,rfl,.inl ⟨xs,h1.sq,rfl⟩,?_⟩;rw[h2.length];exact cA r k rfl Rp.int
 ·rename_i l;obtain⟨v,rfl,hv⟩:=hvs.one;cases e;obtain⟨p,xs,rfl,h1,h2⟩:=(hv.rp rfl).unT;refine call_len pins s σ H _ us Q I rs ⟨_,_,rfl,.inr ⟨xs,Same.seqT r.fh h1,rfl⟩,?_⟩;rw[h2.length];exact cA r k rfl Rp.int
 ·cases e
def lB:List D->Option D
 | [.int i,.int j]=>some (.int (if j>i then j else i))
 | _=>none
def lC:List D->Option D
 | [.int i,.int j]=>some (.int (if j<i then j else i))
 | _=>none
theorem TY(hc:X.calm=true):jZ X (.builtin "max") lB:=by
 intro pins s σ H xs us Q I rs h;obtain⟨O,F,as,ds,d,r,hvs,e,k⟩:=h;unfold lB at e;split at e
 ·obtain⟨v,u,rfl,hv,hu⟩:=hvs.two;cases e;cases(hv.rp rfl).unI;cases(hu.rp rfl).unI;exact PX hc pins s σ H _ us Q I rs ⟨_,_,rfl,cA r k rfl Rp.int⟩
 ·cases e
theorem T3(hc:X.calm=true):jZ X (.builtin "min") lC:=by
 intro pins s σ H xs us Q I rs h;obtain⟨O,F,as,ds,d,r,hvs,e,k⟩:=h;unfold lC at e;split at e
 ·obtain⟨v,u,rfl,hv,hu⟩:=hvs.two;cases e;cases(hv.rp rfl).unI;cases(hu.rp rfl).unI;exact Qa hc pins s σ H _ us Q I rs ⟨_,_,rfl,cA r k rfl Rp.int⟩
 ·cases e
def lD:List D->Option D
 | [.int i]=>some (.int i)
 | [.bl b]=>some (.int (if b then 1 else 0))
 | _=>none
theorem T7:jZ X (.type "int") lD:=by
 intro pins s σ H xs us Q I rs h;obtain⟨O,F,as,ds,d,r,hvs,e,k⟩:=h;unfold lD at e;split at e
 ·obtain⟨v,rfl,hv⟩:=hvs.one;cases e;cases(hv.rp rfl).unI;exact Ez pins s σ H _ us Q I rs (.inl ⟨_,rfl,cA r k rfl Rp.int⟩)
 ·obtain⟨v,rfl,hv⟩:=hvs.one;cases e;cases(hv.rp rfl).unB;exact Ez pins s σ H _ us Q I rs (.inr ⟨_,rfl,cA r k rfl Rp.int⟩)
 ·cases e
def jE:List D->Option D
 | [.lst ds]=>some (.lst ds)
 | [.tup ds]=>some (.lst ds)
 | _=>none
theorem xT:jZ X (.type "list") jE:=by
 intro pins s σ H xs us Q I rs h;obtain⟨O,F,as,ds,d,r,hvs,e,k⟩:=h;unfold jE at e;split at e
 ·obtain⟨v,rfl,hv⟩:=hvs.one;cases e;obtain⟨p,xs,rfl,h1,h2⟩:=hv.list r.fh;exact Fz pins s σ H _ us Q I rs ⟨p,xs,rfl,.inl h1.sq,λl hl=>qg r k hl h2⟩
 ·obtain⟨v,rfl,hv⟩:=hvs.one;cases e;obtain⟨p,xs,rfl,h1,h2⟩:=(hv.rp rfl).unT;exact Fz pins s σ H _ us Q I rs ⟨p,xs,rfl,.inr (Same.seqT r.fh h1),λl hl=>qg r k hl h2⟩
 ·cases e
def j0:List D->Option (List Bool)
 | []=>some []
 | .bl b::ds=>(j0 ds).map (b :: ·)
 | _=>none
theorem Rps.bools{K:Frag}{F:Hp}{as:List Addr}:∀{ds:List D}{xs:List V}{bs:List Bool},Rps K F as xs ds->j0 ds=some bs->xs=bs.map V.bl
 | [],xs,bs,h,e=>by cases e;rw[h.un0];rfl
 |d::ds,xs,bs,h,e=>by
  obtain⟨x,r,rfl,h2,h3⟩:=h.un
  cases d with
  |bl b =>
   unfold j0 at e
   cases q:j0 ds with
   |none=>rw[q] at e;cases e
   |some cs =>
    rw[q] at e;cases e;rw[h2.unB,Rps.bools h3 q];rfl
  | _=>cases e
def qj:List D->Option D
 | [.lst ds]=>(j0 ds).map λbs=>.bl (bs.all id)
 | _=>none
theorem Ua(hc:X.calm=true):jZ X (.builtin "all") qj:=by
 intro pins s σ H xs us Q I rs h;obtain⟨O,F,as,ds,d,r,hvs,e,k⟩:=h;unfold qj at e;split at e
 ·rename_i es;obtain⟨v,rfl,hv⟩:=hvs.one;obtain⟨p,xs,rfl,h1,h2⟩:=hv.list r.fh
  cases q:j0 es with
  |none=>rw[q] at e;cases e
  |some bs =>
   rw[q] at e;cases e;refine R5 hc pins s σ H _ us Q I rs ⟨p,bs,rfl,?_,cA r k rfl Rp.bl⟩;rw[<-h2.bools q];exact h1.sq
 ·cases e
def gJ:List D->Option (List Int)
 | []=>some []
 | .int b::ds=>(gJ ds).map (b :: ·)
 | _=>none
theorem Rps.ints{K:Frag}{F:Hp}{as:List Addr}:∀{ds:List D}{xs:List V}{bs:List Int},Rps K F as xs ds->gJ ds=some bs->xs=bs.map V.int
 | [],xs,bs,h,e=>by cases e;rw[h.un0];rfl
 |d::ds,xs,bs,h,e=>by
  obtain⟨x,r,rfl,h2,h3⟩:=h.un
  cases d with
  |int b =>
   unfold gJ at e
   cases q:gJ ds with
   |none=>rw[q] at e;cases e
   |some cs =>
    rw[q] at e;cases e;rw[h2.unI,Rps.ints h3 q];rfl
  | _=>cases e
def nW:List D->Option D
 | [.lst ds]=>(gJ ds).bind λns=>if(ns.all (λn=>decide (0<=n)&&decide (n<=1000000))&&decide (ns.length<=1000000))=true then some (.int ns.sum) else none
 | _=>none
theorem Ub(hc:X.calm=true):jZ X (.builtin "sum") nW:=by
 intro pins s σ H xs us Q I rs h;obtain⟨O,F,as,ds,d,r,hvs,e,k⟩:=h;unfold nW at e;split at e
 ·rename_i es;obtain⟨v,rfl,hv⟩:=hvs.one;obtain⟨p,xs,rfl,h1,h2⟩:=hv.list r.fh
  cases q:gJ es with
  |none=>rw[q] at e;cases e
  |some ns =>
   rw[q] at e;dsimp only[Option.bind_some] at e;split at e
   ·rename_i hz;rw[zn,decide_eq_true_eq,ji] at hz;cases e;refine R6 hc pins s σ H _ us Q I rs ⟨p,ns,rfl,?_,λn hn=>?_,hz.2,cA r k rfl Rp.int⟩
    ·rw[<-h2.ints q];exact h1.sq
    ·have:=hz.1 n hn
     rw[zn,decide_eq_true_eq,decide_eq_true_eq] at this;exact this
   ·cases e
 ·cases e
theorem fD:bootBuiltins "len" = some (.builtin "len"):=by decide +kernel
theorem Uc:bootBuiltins "max" = some (.builtin "max"):=by decide +kernel
theorem Ud:bootBuiltins "min" = some (.builtin "min"):=by decide +kernel
theorem Ue:bootBuiltins "all" = some (.builtin "all"):=by decide +kernel
theorem Ug:bootBuiltins "sum" = some (.builtin "sum"):=by decide +kernel
theorem xU:bootBuiltins "int" = some (.type "int"):=by decide +kernel
theorem G7:bootBuiltins "str" = some (.type "str"):=by decide +kernel
theorem xV:bootBuiltins "bool" = some (.type "bool"):=by decide +kernel
theorem qp:bootBuiltins "list" = some (.type "list"):=by decide +kernel
theorem G8:bootBuiltins "tuple" = some (.type "tuple"):=by decide +kernel
def tyD:D->Option String
 | .non=>some "NoneType"
 | .bl _=>some "bool"
 | .int _=>some "int"
 | .str _=>some "str"
 | .lst _=>some "list"
 | .tup _=>some "tuple"
 | .dic _ _=>some "dict"
 | .ob _=>none
def cN(t n:String):Bool:=t == n || (t == "bool" && n == "int")
def eY(n:String)(m:M D):M D:=λρ O=>(m ρ O).bind λd O1=>match tyD (aZ O1 d) with
 |some t=>.ok (.bl (cN t n)) O1
 |none=>.no
def xW:List String:=["str","int","bool","list","tuple","dict"]
theorem Uh(K:Frag):∀d t,tyD d=some t->∀n∈xW,PySem.W.kitOne K (.type t) (.type n)=some (cN t n):=by
 intro d t e n hn;simp only[xW,zm,List.not_mem_nil,or_false] at hn
 cases d<;>cases e<;>rcases hn with rfl | rfl | rfl | rfl | rfl | rfl<;>first | exact Ss K _ | kernel_rfl
theorem Lk.ty{K:Frag}{H F:Hp}{as:List Addr}{v:V}{d:D}{t:String}(h:Lk K H F as v d)(fh:Same F H)(e:tyD d=some t):TyQ K H v t:=by
 cases d with
 |non=>cases e;rw[(h.rp rfl).unN];exact .non
 |bl b=>cases e;rw[(h.rp rfl).unB];exact .bl _
 |int b=>cases e;rw[(h.rp rfl).unI];exact .int _
 |str b=>cases e;rw[(h.rp rfl).unS];exact .str _
 |lst ds=>cases e;obtain⟨p,xs,rfl,h1,h2⟩:=h.list fh;exact .lst h1.sq
 |tup ds=>cases e;obtain⟨p,xs,rfl,h1,h2⟩:=(h.rp rfl).unT;exact .tup (Same.seqT fh h1)
 |dic ks vs=>cases e;obtain⟨p,xs,rfl,h1,h2⟩:=(h.rp rfl).unD;exact .dK (fh _ _ h1)
 |ob n=>cases e
theorem jF(n:String){T:Str}{a:Expr}{p p' pos:Pos}{m:M D}(hm:X.mg "isinstance" = none)(hT:X.mg T=none)(h:SE X md P a m)(hb:bootBuiltins T=some (.type n):=by decide +kernel)(hn:n∈xW:=by decide)(hg:Gl X "isinstance":=by rfl)(hgT:Gl X T:=by rfl)
  (hTn:T≠"__name__":=by decide) (hTd:(T == ("__debug__":Str))=false:=by decide)
  (hs1:starEach [a,.Name T p'] X.env=(false,eval a X.env)::starEach [.Name T p'] X.env:=by exact cD rfl) (hs2:starEach [.Name T p'] X.env=(false,eval (.Name T p') X.env)::starEach [] X.env:=by rfl) (hpl:(backTo pos (starEach [.Name T p'] X.env)).any (·.1)=false:=by exact eO rfl):
  OE X md P (.Call (.Name "isinstance" p) [a,.Name T p'] [] pos) (eY n m):=
 (Fp (Sq X.K) hg hm (by decide +kernel) (gZ h (gZ (M8 (v:=.ty n) hgT hT hb rfl hTn hTd) jw hs2) hs1) (by decide) (by decide) hs1 hpl).imp λσ H Q q=>by
  obtain⟨ρ,O,F,as,d,O',r,s,e,k⟩:=q;obtain⟨x,O1,e1,e⟩:=Res.bind_ok e;split at e
  ·rename_i t ht;cases e;refine⟨ρ,_,F,as,_,_,r,s,e1,λv H1 F1 as1 g1 r1 hv=>?_⟩;exact⟨v,n,t,_,rfl,Lk.ty (Sv.lk hv r1) r1.fh ht,Uh _ _ t ht n hn,k _ H1 F1 as1 g1 r1 (.inl ⟨rfl,Rp.bl⟩)⟩
  ·cases e
def uc(m:M D):M (List D):=λρ O=>(m ρ O).bind λd O1=>match d with
 | .lst ds=>.ok ds O1
 | _=>.no
def xX(m:M D):M (List D):=λρ O=>(m ρ O).bind λd O1=>match d with
 | .tup ds=>.ok ds O1
 | _=>.no
theorem Ui{K:Frag}{mg:Str->Option Value}{H F:Hp}{as:List Addr}{a:Addr}{xs:List V}{ds:List D}(hs:Rps K F as xs ds)(hp:∀(H2 F2:Hp) (as2:List Addr),GrS P H F as H2 F2 as2->(∃O,RlO K mg O H2 F2 as2)->RdK K H2 a xs):lr K mg P (Itl K a) ds H F as:=by
 refine⟨λi d H2 F2 as2 g r e=>?_,λH2 F2 as2 g r=>⟨xs,(hp H2 F2 as2 g r).sq,by rw[hs.length];exact zb _⟩⟩;obtain⟨x,h1,h2⟩:=hs.get' e;have q:=hp H2 F2 as2 g r;refine⟨⟨xs,x,q.sq,h1⟩,λy H3 hy=>?_⟩;obtain⟨rfl,hy⟩:=hy
 have:=hy xs q.sq
 rw[h1] at this;cases this;exact⟨F2,Gr.refl,λ_ r=>r,h2.grS g⟩
end
section
variable {X:Cx}{pins:List (Addr×Obj)}{σ:St}{H:Hp}{s:Shared}
theorem Inv.turnL{ch:List Addr}{h':Heap}{t':Nat}(I:Inv X pins σ H s)(hch:∀b∈ch,fZ X pins H b)(k:∀b o,b∉ch->s.heap.get? b=some o->h'.get? b=some o):Inv X pins σ H {s with heap:=h',toks:=t'}:=by
 have nit:∀b u,H b=some u->b∉ch:=λb u e z=>by rw[(hch b z).1] at e;cases e
 refine I.step (g':=s.gens) (d':=s.drawn) (ch:=ch) (λb hb=>?_) (λb o _ _ hc e _=>k b o hc e) (λb o _ _ hc e _=>⟨o.slots,k b o hc e⟩) (λ_ _ _ _ n=>n)
  (λb o hc e=>⟨o,k b o hc e⟩) (λ_ _ e=>e) (λ_ _ _ e=>e) (λb ps e=>⟨#[],by rw[e];simp⟩) (λm hm=>?_) (λb u e=>?_) I.bare
 ·obtain⟨f0,f1,f2,f3,f4,f5⟩:=hch b hb;exact⟨f3,f1,f4,f5⟩
 ·obtain⟨o,es,ep,ho,r⟩:=hm;exact⟨o,es,ep,k _ o (λz=>(hch _ z).2.1 rfl) ho,r⟩
 ·refine(I.hok b u e).stay (λc v hc q=>k c v ?_ q) (λ_ q=>q) λ_ _ q=>q
  rcases hc with z | z
  ·rw[z];exact nit b u e
  ·exact nit c _ z
theorem Inv.turnT{ch:List Addr}{h':Heap}{t':Nat}{T:Addr}{vs:List V}{us:List Value}(I:Inv X pins σ H s)(hch:∀b∈ch,fZ X pins H b)(k:∀b o,b∉ch->s.heap.get? b=some o->h'.get? b=some o)
  (hT:s.heap.objs.size<=T) (new:IsTup h' T us.toArray) (hv:aR vs us) (hz:vs.length<=sizeLine):Inv X pins σ (upd H T (.tup vs)) {s with heap:=h',toks:=t'}:=by
 have hn:H T=none:=I.hok.fresh hT
 have nit:∀b u,H b=some u->b∉ch:=λb u e z=>by rw[(hch b z).1] at e;cases e
 have ne:∀b o,s.heap.get? b=some o->b≠T:=λb o e z=>by
  subst z;exact absurd (zf e) (Nat.not_lt_of_le hT)
 refine I.step (g':=s.gens) (d':=s.drawn) (ch:=ch) (λb hb=>?_) (λb o _ _ hc e _=>k b o hc e) (λb o _ _ hc e _=>⟨o.slots,k b o hc e⟩) (λb o _ e n=>by rw[aK (ne b o e)];exact n)
  (λb o hc e=>⟨o,k b o hc e⟩) (λb _ e=>by rw[aK (bT e hn)];exact e) (λb _ _ e=>by rw[aK (bT e hn)];exact e) (λb ps e=>⟨#[],by rw[aK (bT e hn),e];simp⟩) (λm hm=>?_) (λb u e=>?_) I.bare
 ·obtain⟨f0,f1,f2,f3,f4,f5⟩:=hch b hb;exact⟨f3,f1,f4,f5⟩
 ·obtain⟨o,es,ep,ho,r⟩:=hm;exact⟨o,es,ep,k _ o (λz=>(hch _ z).2.1 rfl) ho,r⟩
 ·by_cases hb:b=T
  ·subst hb;rw[bJ] at e;cases e;exact⟨hz,us,hv,new⟩
  ·rw[aK hb] at e
   refine(I.hok b u e).stay (λc v hc q=>k c v ?_ q) (λc q=>by rw[aK (bT q hn)];exact q) λc xs q=>by rw[aK (bT q hn)];exact q
   rcases hc with z | z
   ·rw[z];exact nit b u e
   ·exact nit c _ z
end
def Ite(K:Frag)(l:Addr):It:=⟨λi H=>∃xs x,SqL K H l xs/\xs[i]?=some x,λi H v H'=>∃T x,v=.ref T/\H T=none/\H'=upd H T (.tup [.int i,x])/\∀xs,SqL K H l xs->xs[i]?=some x,λi H=>∃xs,SqL K H l xs/\xs.length<=i⟩
def G9(l:List Nat):It:=⟨λi _=>i<l.length,λi H v H'=>∃T c,v=.ref T/\H T=none/\H'=upd H T (.tup [.int i,.str (S [c])])/\l[i]?=some c,λi _=>l.length<=i⟩
theorem mj{h:Heap}{b:Addr}{o:Obj}{vs:Array Value}(e:h.get? b=some o)(d:o.data=.fields vs):∃o,h.get? b=some o/\∀v,o.data≠.cell v:=⟨o,e,λv z=>by rw[d] at z;cases z⟩
theorem Uj{P:Program}{w:World}{K:Frag}{elts:List Expr}{x1}{pos:Pos}(e it l:Addr)(hne:e≠it):Turn P w K (.Tuple elts x1 pos) (Ite K l) [e,it] e (λi h=>(∃old,IsEnum h e it i old)/\h.IsListIter it l i) where
 mem:=by simp
 obj:=λi h st b hb=>by
  obtain⟨⟨old,he⟩,o,ho,hc,hd⟩:=st
  rcases zm.mp hb with rfl | hb
  ·exact mj he rfl
  ·rw[zp.mp hb];exact mj ho hd
 keep:=λi h h' st k=>by
  obtain⟨⟨old,he⟩,o,ho,r⟩:=st;exact⟨⟨old,k e (by simp) _ he⟩,o,k it (by simp) o ho,r⟩
 item:=by
  intro X hP hw hK hc i pins s σ H E I hf st hg;subst hP hw hK;obtain⟨⟨old,he⟩,hit⟩:=st;obtain⟨xs,x,hq,hx⟩:=hg;obtain⟨its,rv,pl,hz⟩:=I.list hq;obtain⟨u,hu,ru⟩:=rv.get hx;have hT:H s.heap.objs.size=none:=I.hok.fresh (zb _);have elt:e<s.heap.objs.size:=zf he
  refine wpAny_pyNext_enum_item he hit pl.isList (x:=u) (by simpa using hu) hne λh' ho hit' hTup hsz hk=>⟨_,rfl,?_⟩
  refine wpAny_letOwnedTupleGo_enum ho λh'' he'' hs''=>⟨.ref s.heap.objs.size,_,?_,rfl,⟨s.heap.objs.size,x,rfl,hT,rfl,λys hy=>by rw[I.list_inj hy hq];exact hx⟩,⟨⟨_,by simpa using he''⟩,hit'.extBut hs''.extBut (Ne.symm hne)⟩,λb hb=>?_⟩
  ·show Inv X pins σ _ {s with heap:=h'',toks:=s.toks+1};refine I.turnT (ch:=[e,it]) (us:=[.int i s.toks,u]) hf (λb o hb q=>?_) (zb _) ⟨_,hs''.extBut _ _ (Nat.ne_of_gt elt) hTup,rfl,_,rfl⟩ (.cons ⟨_,rfl⟩ (.cons ru .nil)) (by show 2<=sizeLine;decide)
   have h1:b≠e:=λz=>hb (by simp[z])
   have h2:b≠it:=λz=>hb (by simp[z])
   exact hs''.extBut _ _ h1 (hk b o h1 h2 q)
  ·have q:=hf b hb;rw[aK (λz=>?_)]
   ·exact q.1
   ·obtain⟨o,ho⟩:∃o,s.heap.get? b=some o:=by
     rcases zm.mp hb with rfl | hb
     ·exact⟨_,he⟩
     ·rw[zp.mp hb];obtain⟨o,ho,_⟩:=hit;exact⟨o,ho⟩
    exact absurd (zf ho) (by rw[z];exact zL _)
 done:=by
  intro X hP hw hK hc i pins s σ H E I hf st hg;subst hP hw hK;obtain⟨⟨old,he⟩,hit⟩:=st;obtain⟨xs,hq,hl⟩:=hg;obtain⟨its,rv,pl,hz⟩:=I.list hq
  refine wpAny_pyNext_enum_end (I.ok.hd hc) he hit pl.isList (by have:=rv.length;simp;omega) λh' hx=>⟨rfl,?_⟩
  exact I.turnL (t':=s.toks) (ch:=[e,it]) hf λb o hb q=>hx b o (λz=>hb (by simp[z])) q
 self:=λA i s Q E st h=>by
  obtain⟨⟨old,he⟩,_⟩:=st;exact wpAny_pyIter_enum he h
theorem Uk{P:Program}{w:World}{K:Frag}{elts:List Expr}{x1}{pos:Pos}(e it:Addr)(l:List Nat)(t:Tok)(hne:e≠it):Turn P w K (.Tuple elts x1 pos) (G9 l) [e,it] e (λi h=>(∃old,IsEnum h e it i old)/\h.IsStrIter it "str_ascii_iterator" (S l) t i) where
 mem:=by simp
 obj:=λi h st b hb=>by
  obtain⟨⟨old,he⟩,o,ho,hc,hd⟩:=st
  rcases zm.mp hb with rfl | hb
  ·exact mj he rfl
  ·rw[zp.mp hb];exact mj ho hd
 keep:=λi h h' st k=>by
  obtain⟨⟨old,he⟩,o,ho,r⟩:=st;exact⟨⟨old,k e (by simp) _ he⟩,o,k it (by simp) o ho,r⟩
 item:=by
  intro X hP hw hK hc i pins s σ H E I hf st hg;subst hP hw hK;obtain⟨⟨old,he⟩,hit⟩:=st;have hg':i<l.length:=hg;have hT:H s.heap.objs.size=none:=I.hok.fresh (zb _);have elt:e<s.heap.objs.size:=zf he;have hd:X.A.in1.handled=none:=I.ok.hd hc
  refine wpAny_pyNext_enum_itemD (Draws.strAscii hd it (S l) t) he hit (by simpa [S] using hg') hne (λz=>hne (by simpa using z)) λu h' tk hP ho hit' hTup hsz hk=>⟨_,rfl,?_⟩
  obtain⟨c,tc,hcx,rfl⟩:=hP
  have hcl:l[i]?=some c:=by
   rw[<-hcx];simp[S]
  refine wpAny_letOwnedTupleGo_enum ho λh'' he'' hs''=>⟨.ref s.heap.objs.size,_,?_,rfl,⟨s.heap.objs.size,c,rfl,hT,rfl,hcl⟩,⟨⟨_,by simpa using he''⟩,?_⟩,λb hb=>?_⟩
  ·show Inv X pins σ _ {s with heap:=h'',toks:=tk+1};refine I.turnT (ch:=[e,it]) (us:=[.int i tk,.str ⟨#[c]⟩ tc]) hf (λb o hb q=>?_) (zb _) ⟨_,hs''.extBut _ _ (Nat.ne_of_gt elt) hTup,rfl,_,rfl⟩ (.cons ⟨_,rfl⟩ (.cons ⟨_,rfl⟩ .nil)) (by show 2<=sizeLine;decide)
   have h1:b≠e:=λz=>hb (by simp[z])
   have h2:b≠it:=λz=>hb (by simp[z])
   exact hs''.extBut _ _ h1 (hk b o h1 h2 q)
  ·obtain⟨o,ho',r⟩:=hit';exact⟨o,hs''.extBut _ _ (Ne.symm hne) ho',r⟩
  ·have q:=hf b hb;rw[aK (λz=>?_)]
   ·exact q.1
   ·obtain⟨o,ho⟩:∃o,s.heap.get? b=some o:=by
     rcases zm.mp hb with rfl | hb
     ·exact⟨_,he⟩
     ·rw[zp.mp hb];obtain⟨o,ho,_⟩:=hit;exact⟨o,ho⟩
    exact absurd (zf ho) (by rw[z];exact zL _)
 done:=by
  intro X hP hw hK hc i pins s σ H E I hf st hg;subst hP hw hK;obtain⟨⟨old,he⟩,hit⟩:=st;have hd:X.A.in1.handled=none:=I.ok.hd hc;have hg':l.length<=i:=hg;have hT:s.TypeIs (.ref e) "enumerate":=⟨_,he,rfl⟩;unfold pyNext
  refine za (wpAny_attempt (wpAny_callSpecial?_slot (name:=Str.ofString "__next__") hT F.slot_enumerate_next
   (wpAny_call_entry F.slot_enumerate_next hT F.entry_enumerate_next ?_ (F.args_enumerate_next_1 _))))
  show wpAny _ _ (field (.ref e) 2 >>= _) _ _ _;refine za (wpAny_field he rfl (x:=.ref it) rfl ?_);refine za (wpAny_nextOf_ascii_end hd hit (by simp[S];exact hg') λh' x he' hx'=>?_);obtain⟨o,ho,hc⟩:=hx';refine za (wpAny_isInstance (T:="StopIteration") (b:=true) ⟨o,ho,hc⟩ isSubtype_stop ?_);exact zc ⟨rfl,I.turnL (t':=s.toks) (ch:=[e,it]) hf λb o hb q=>he' b o (λz=>hb (by simp[z])) q⟩
 self:=λA i s Q E st h=>by
  obtain⟨⟨old,he⟩,_⟩:=st;exact wpAny_pyIter_enum he h
section
variable {X:Cx}{elts:List Expr}{x1:Nat}{tpos:Pos}
def ud(K:Frag)(ta:TA):TI:=λσ H R=>ta σ H λvs H1=>∃a,vs=[.ref a]/\(∃xs,SqL K H1 a xs)/\R (Ite K a) H1
def Ul(ta:TA):TI:=λσ H R=>ta σ H λvs H1=>∃l,vs=[.str (S l)]/\ascii l=true/\R (G9 l) H1
theorem Um{l:List Nat}(h:ascii l=true):strIterType (S l) = "str_ascii_iterator":=by
 unfold strIterType;rw[if_pos];unfold ascii at h;rw[ji] at h;simp[S];intro i hi;simpa using h i hi
theorem xY{a:Expr}{ta:TA}{p pos:Pos}(hg:Gl X "enumerate")(hm:X.mg "enumerate" = none)(ha:PA X [a] ta)(hs:starEach [a] X.env=[(false,eval a X.env)]:=by exact iG rfl):PI X (.Tuple elts x1 tpos) (.Call (.Name "enumerate" p) [a] [] pos) (ud X.K ta):=by
 intro pins s σ H R I h;refine Call_ (gW I hg hm boot_enumerate (PyProof.Rows.callWith_type1 (thn (ha pos pins s σ H _ I h) λus s1 ⟨vs,H1,I1,r1,q1⟩=>?_) hs rfl));obtain⟨l,e,⟨xs,hq⟩,q⟩:=q1;subst e;obtain⟨u,rfl,ru⟩:=vals1 r1;cases ru;obtain⟨its,rv,pl,hz⟩:=I1.list hq
 refine call_enumerate_list pl.isList λh' he hit hsz hk=>wpAny_pyIter_enum he ?_
 refine⟨s1.heap.objs.size+1,[s1.heap.objs.size+1,s1.heap.objs.size],_,_,H1,rfl,I1.kept (t':=s1.toks) hk,Uj (s1.heap.objs.size+1) s1.heap.objs.size l (Nat.succ_ne_self _),⟨⟨_,he⟩,hit⟩,λb hb=>?_,q⟩
 have hb':s1.heap.objs.size<=b:=by
  rcases zm.mp hb with rfl | hb
  ·exact Nat.le_succ _
  ·rw[zp.mp hb];exact zb _
 exact I1.fpOk hb' (I1.hok.fresh hb')
theorem Uo{a:Expr}{ta:TA}{p pos:Pos}(hg:Gl X "enumerate")(hm:X.mg "enumerate" = none)(ha:PA X [a] ta)(hs:starEach [a] X.env=[(false,eval a X.env)]:=by exact iG rfl):PI X (.Tuple elts x1 tpos) (.Call (.Name "enumerate" p) [a] [] pos) (Ul ta):=by
 intro pins s σ H R I h;refine Call_ (gW I hg hm boot_enumerate (PyProof.Rows.callWith_type1 (thn (ha pos pins s σ H _ I h) λus s1 ⟨vs,H1,I1,r1,q1⟩=>?_) hs rfl));obtain⟨l,e,hl,q⟩:=q1;subst e;obtain⟨u,rfl,t,rfl⟩:=vals1 r1
 refine call_enumerate_str λh' he hit hsz hk=>wpAny_pyIter_enum he ?_
 rw[Um hl] at hit;refine⟨s1.heap.objs.size+1,[s1.heap.objs.size+1,s1.heap.objs.size],_,_,H1,rfl,I1.kept (t':=s1.toks) hk,Uk (s1.heap.objs.size+1) s1.heap.objs.size l t (Nat.succ_ne_self _),⟨⟨_,he⟩,hit⟩,λb hb=>?_,q⟩
 have hb':s1.heap.objs.size<=b:=by
  rcases zm.mp hb with rfl | hb
  ·exact Nat.le_succ _
  ·rw[zp.mp hb];exact zb _
 exact I1.fpOk hb' (I1.hok.fresh hb')
end
def rW(K:Frag)(P:Pt):RR:=λ_ H F as v d=>Rp K F as v d\/∃a xs ds,v=.ref a/\d=.lst ds/\H a=some (.lst xs)/\a∉as/\P a/\Rps K F as xs ds
def WE(X:Cx)(md:List Md)(P:Pt)(e:Expr)(m:M D):Prop:=PE X e (tM X.K X.mg md P (rW X.K P) m)
section
variable {X:Cx}{md:List Md}{P:Pt}{R:RR}
theorem qt{e:Expr}{m:M D}(h:VE X md P e m):WE X md P e m:=h.imp λσ H Q q=>by
 obtain⟨ρ,O,F,as,d,O',r,s,e,k⟩:=q;exact⟨ρ,O,F,as,d,O',r,s,e,λv H' F' as' g r' hv=>k v H' F' as' g r' (.inl hv)⟩
theorem ue(i:Nat){x:Str}{pos:Pos}(hm:md[i]?=some .s:=by rfl)(hN:X.N[i]?=some x:=by rfl)(hv:Vis X.env.scope x:=by first | exact Or.inl rfl | exact Or.inr (Or.inl rfl) | exact Or.inr (Or.inr rfl))
  (hd:(x == ("__debug__":Str))=false:=by decide) (hcd:(x == ("__classdict__":Str))=false:=by decide):WE X md P (.Name x pos) (aa i):=by
 refine(lR (i:=i) hN hv hd hcd).imp λσ H Q h=>?_
 obtain⟨ρ,O,F,as,d,O',r,s,e,k⟩:=h;obtain⟨e1,rfl⟩:=tU e;obtain⟨v,h2,h3⟩:=s.sl i .s d hm e1;exact⟨v,h2,k v H F as Gr.refl r h3⟩
theorem qw{K:Frag}{mg:Str->Option Value}{N:Addr->Prop}{H F:Hp}{as:List Addr}{v:V}{ds:List D}(hv:rW K P N H F as v (.lst ds)):
  ∃a xs,v=.ref a/\Rps K F as xs ds/\∀(H2 F2:Hp) (as2:List Addr),GrS P H F as H2 F2 as2->(∃O,RlO K mg O H2 F2 as2)->RdK K H2 a xs:=by
 rcases hv with hv | ⟨a,xs,ds',rfl,e,e3,e4,e5,e6⟩
 ·obtain⟨a,xs,rfl,h1,h2⟩:=hv.unL;exact⟨a,xs,rfl,h2,λH2 F2 as2 g ⟨O,r⟩=>(h1.mono g.ff).mono r.fh⟩
 ·cases e;exact⟨a,xs,rfl,e6,λH2 F2 as2 g _=>.inl (.inl (g.fr _ _ e5 e3 e4 rfl))⟩
theorem Up{tg e:Expr}{m:M D}(h:WE X md P e m):VI X md P tg e (uc m):=(Ek h).imp λσ H Q q=>by
 obtain⟨ρ,O,F,as,ds,O',r,s,e,k⟩:=q;obtain⟨d,O1,e1,e⟩:=Res.bind_ok e
 cases d with
 |lst es =>
  cases e;refine⟨ρ,_,F,as,_,_,r,s,e1,λv H1 F1 as1 g1 r1 hv=>?_⟩;obtain⟨a,xs,rfl,h1,h2⟩:=qw (mg:=X.mg) hv;exact⟨a,rfl,⟨xs,(h2 H1 F1 as1 GrS.refl ⟨_,r1⟩).sq⟩,k _ H1 F1 as1 g1 r1 (Ui h1 h2)⟩
 | _=>cases e
theorem Ha{tg e:Expr}{m:M D}(h:VE X md P e m):VI X md P tg e (xX m):=(Ot h).imp λσ H Q q=>by
 obtain⟨ρ,O,F,as,ds,O',r,s,e,k⟩:=q;obtain⟨d,O1,e1,e⟩:=Res.bind_ok e
 cases d with
 |tup es =>
  cases e;refine⟨ρ,_,F,as,_,_,r,s,e1,λv H1 F1 as1 g1 r1 hv=>?_⟩;obtain⟨a,xs,rfl,h1,h2⟩:=Rp.unT hv
  have hp:∀(H2 F2:Hp) (as2:List Addr),GrS P H1 F1 as1 H2 F2 as2->(∃O,RlO X.K X.mg O H2 F2 as2)->SqT X.K H2 a xs:=λH2 F2 as2 g ⟨O,r⟩=>Same.seqT r.fh (Same.seqT g.ff h1)
  refine⟨a,rfl,⟨xs,hp H1 F1 as1 GrS.refl ⟨_,r1⟩⟩,k _ H1 F1 as1 g1 r1 ⟨λi d H2 F2 as2 g r e=>?_,λH2 F2 as2 g r=>⟨xs,hp H2 F2 as2 g r,by rw[h2.length];exact zb _⟩⟩⟩;obtain⟨x,h3,h4⟩:=h2.get' e;have q:=hp H2 F2 as2 g r;refine⟨⟨xs,x,q,h3⟩,λy H3 hy=>?_⟩;obtain⟨rfl,hy⟩:=hy
  have:=hy xs q
  rw[h3] at this;cases this;exact⟨F2,Gr.refl,λ_ r=>r,h4.grS g⟩
 | _=>cases e
def iQ(l:List Nat):List D:=l.map λc=>.str [c]
def xZ(m:M D):M (List D):=λρ O=>(m ρ O).bind λd O1=>match d with
 | .str l=>if ascii l=true then .ok (iQ l) O1 else .no
 | _=>.no
theorem yc{K:Frag}{mg:Str->Option Value}{J:It}{ds:List D}{H F:Hp}{as:List Addr}(h1:∀(i:Nat) (d:D) (H2:Hp),ds[i]?=some d->J.go i H2/\∀x H3,J.yld i H2 x H3->H3=H2/\∀K F as,Rp K F as x d)(h2:∀H2,J.stop ds.length H2):lr K mg P J ds H F as :=
 ⟨λi d H2 F2 as2 _ _ e=>⟨(h1 i d H2 e).1,λx H3 y=>by
  obtain⟨rfl,hx⟩:=(h1 i d H2 e).2 x H3 y
  exact⟨F2,Gr.refl,λ_ r=>r,hx _ _ _⟩⟩,λH2 _ _ _ _=>h2 H2⟩
theorem Hb{tg e:Expr}{m:M D}(h:SE X md P e m):VI X md P tg e (xZ m):=(R4 h).imp λσ H Q q=>by
 obtain⟨ρ,O,F,as,ds,O',r,s,e,k⟩:=q;obtain⟨d,O1,e1,e⟩:=Res.bind_ok e
 cases d with
 |str l =>
  dsimp only at e;split at e
  ·rename_i hl;cases e;refine⟨ρ,_,F,as,_,_,r,s,e1,λv H1 F1 as1 g1 r1 hv=>?_⟩;refine⟨l,(Sv.rp hv rfl).unS,hl,k _ H1 F1 as1 g1 r1 (yc (λi d H2 e=>?_) λH2=>by simp[iQ,Its])⟩;unfold iQ at e;rw[zl] at e
   cases q:l[i]? with
   |none=>rw[q] at e;cases e
   |some c =>
    rw[q] at e;cases e;refine⟨(zh.mp q).1,λx H3 y=>?_⟩;obtain⟨e1,c',e2,rfl⟩:=y;rw[q] at e2;cases e2;exact⟨e1,λ_ _ _=>Rp.str⟩
  ·cases e
 | _=>cases e
def cZ(lo:Int)(n:Nat):List D:=(List.range n).map λ(k:Nat)=>.int (lo+(k:Int))
def dB(m:M (List D)):M (List D):=λρ O=>(m ρ O).bind λds O1=>match ds with
 | [.int j]=>if j<=1000000000/\-1000000000<=j then .ok (cZ 0 j.toNat) O1 else .no
 | _=>.no
def nY(m:M (List D)):M (List D):=λρ O=>(m ρ O).bind λds O1=>match ds with
 | [.int i,.int j]=>if(i<=1000000000/\-1000000000<=i)/\j<=1000000000/\-1000000000<=j then .ok (cZ i (j - i).toNat) O1 else .no
 | _=>.no
theorem Hc{K:Frag}{mg:Str->Option Value}{lo:Int}{n:Nat}{H F:Hp}{as:List Addr}:lr K mg P (Itr lo n) (cZ lo n) H F as:=yc (λi d H2 e=>by
 unfold cZ at e;rw[zl] at e
 by_cases hi:i<n
 ·rw[List.getElem?_range hi] at e;cases e;refine⟨hi,λx H3 y=>?_⟩;obtain⟨e1,rfl⟩:=y;exact⟨e1,λ_ _ _=>Rp.int⟩
 ·rw[zV (by simpa using hi)] at e
  cases e) λH2=>by simp[cZ,Itr]
theorem cW.one{K:Frag}{H F:Hp}{as:List Addr}{m:Md}{vs:List V}{d:D}(h:cW K H F as [m] vs [d]):∃v,vs=[v]/\rA K m (λ_=>True) H F as v d:=by
 cases vs with
 |nil=>exact h.elim
 |cons v vs =>
  cases vs with
  |nil=>exact⟨v,rfl,h.1⟩
  |cons u us=>exact h.2.elim
theorem cW.two{K:Frag}{H F:Hp}{as:List Addr}{m n:Md}{vs:List V}{d e:D}(h:cW K H F as [m,n] vs [d,e]):∃v u,vs=[v,u]/\rA K m (λ_=>True) H F as v d/\rA K n (λ_=>True) H F as u e:=by
 cases vs with
 |nil=>exact h.elim
 |cons v vs =>
  cases vs with
  |nil=>exact h.2.elim
  |cons u us =>
   cases us with
   |nil=>exact⟨v,u,rfl,h.1,h.2.1⟩
   |cons w ws=>exact h.2.2.elim
theorem jG{tg a:Expr}{p pos:Pos}{m:M (List D)}(hm:X.mg "range" = none)(ha:AE X md P [.s] [a] m)(hg:Gl X "range":=by rfl)(hs:starEach [a] X.env=[(false,eval a X.env)]:=by exact iG rfl):VI X md P tg (.Call (.Name "range" p) [a] [] pos) (dB m):=(Ox hg hm ha hs).imp λσ H Q q=>by
 obtain⟨ρ,O,F,as,ds,O',r,s,e,k⟩:=q;obtain⟨es,O1,e1,e⟩:=Res.bind_ok e;split at e
 ·rename_i j;split at e
  ·rename_i hj;cases e;refine⟨ρ,_,F,as,_,_,r,s,e1,λvs H1 F1 as1 g1 r1 hv=>?_⟩;obtain⟨v,rfl,hv1⟩:=hv.one
   have:=(Sv.rp hv1 rfl).unI
   subst this;exact⟨j,rfl,by omega,by omega,k _ H1 F1 as1 g1 r1 Hc⟩
  ·cases e
 ·cases e
theorem Uq{tg a b:Expr}{p pos:Pos}{m:M (List D)}(hm:X.mg "range" = none)(ha:AE X md P [.s,.s] [a,b] m)(hg:Gl X "range":=by rfl)(hs:starEach [a,b] X.env=[(false,eval a X.env),(false,eval b X.env)]:=by exact Sy rfl rfl)(hs2:starEach [b] X.env=[(false,eval b X.env)]:=by exact iG rfl):
  VI X md P tg (.Call (.Name "range" p) [a,b] [] pos) (nY m):=(Oz hg hm ha hs hs2).imp λσ H Q q=>by
 obtain⟨ρ,O,F,as,ds,O',r,s,e,k⟩:=q;obtain⟨es,O1,e1,e⟩:=Res.bind_ok e;split at e
 ·rename_i i j;split at e
  ·rename_i hj;cases e;refine⟨ρ,_,F,as,_,_,r,s,e1,λvs H1 F1 as1 g1 r1 hv=>?_⟩;obtain⟨v,u,rfl,hv1,hu⟩:=hv.two;have e3:=(Sv.rp hv1 rfl).unI;have e4:=(Sv.rp hu rfl).unI;subst e3 e4;exact⟨i,j,rfl,⟨by omega,by omega,by omega,by omega⟩,k _ H1 F1 as1 g1 r1 Hc⟩
  ·cases e
 ·cases e
def eZ:Nat->List D->List D
 | _,[]=>[]
 |k,d::ds=>.tup [.int k,d]::eZ (k+1) ds
theorem nZ:∀(k:Nat) (ds:List D),(eZ k ds).length=ds.length
 | _,[]=>rfl
 |k,d::ds=>by simp[eZ,nZ (k+1) ds]
theorem qx:∀(k:Nat) (ds:List D) (i:Nat),(eZ k ds)[i]?=(ds[i]?).map λd=>.tup [.int ((k+i:Nat):Int),d]
 |k,[],i=>by simp[eZ]
 |k,d::ds,0=>by simp[eZ]
 |k,d::ds,i+1=>by
  rw[eZ,List.getElem?_cons_succ,List.getElem?_cons_succ,qx (k+1) ds i];congr 1
  funext d
  congr 3;omega
theorem n6{K:Frag}{mg:Str->Option Value}{H2 F2:Hp}{as2:List Addr}{T:Addr}{xs:List V}{ds:List D}(hr:∃O,RlO K mg O H2 F2 as2)(hT:H2 T=none)(hx:Rps K F2 as2 xs ds):
  ∃F3,Gr H2 F2 as2 (upd H2 T (.tup xs)) F3 as2/\(∀O,RlO K mg O H2 F2 as2->RlO K mg O (upd H2 T (.tup xs)) F3 as2)/\Rp K F3 as2 (.ref T) (.tup ds):=by
 obtain⟨O,r⟩:=hr;have hF:=r.frF hT
 have ff:Same F2 (upd F2 T (.tup xs)):=λb u q=>by rw[aK (bT q hF)];exact q
 exact⟨upd F2 T (.tup xs),(Gr.lay hT).frz hT hF,λO' r'=>(r'.lay hT).frz bJ hF (λz=>r'.all z hT) rfl,Rp.mkT (.inl bJ) (Rps.mono ff (λ_ _ z=>z) _ hx)⟩
def n8(m:M D):M (List D):=λρ O=>(m ρ O).bind λd O1=>match d with
 | .lst ds=>.ok (eZ 0 ds) O1
 | _=>.no
def Hd(m:M D):M (List D):=λρ O=>(m ρ O).bind λd O1=>match d with
 | .str l=>if ascii l=true then .ok (eZ 0 (iQ l)) O1 else .no
 | _=>.no
variable {elts:List Expr}{x1:Nat}{tpos:Pos}
theorem Ur{a:Expr}{p pos:Pos}{m:M D}(hm:X.mg "enumerate" = none)(h:WE X md P a m)(hg:Gl X "enumerate":=by rfl)(hs:starEach [a] X.env=[(false,eval a X.env)]:=by exact iG rfl)(hs':starEach [a] X.env=(false,eval a X.env)::starEach [] X.env:=by exact cD rfl):
  VI X md P (.Tuple elts x1 tpos) (.Call (.Name "enumerate" p) [a] [] pos) (n8 m):=(xY hg hm (gZ h jw hs') hs).imp λσ H Q q=>by
 obtain⟨ρ,O,F,as,ds,O',r,s,e,k⟩:=q;obtain⟨d,O1,e1,e⟩:=Res.bind_ok e
 cases d with
 |lst es =>
  cases e;refine⟨ρ,_,F,as,_,_,r,s,e1,λv H1 F1 as1 g1 r1 hv=>?_⟩;obtain⟨a,xs,rfl,h1,h2⟩:=qw (mg:=X.mg) hv;refine⟨a,rfl,⟨xs,(h2 H1 F1 as1 GrS.refl ⟨_,r1⟩).sq⟩,k _ H1 F1 as1 g1 r1 ⟨λi d H2 F2 as2 g r e=>?_,λH2 F2 as2 g r=>⟨xs,(h2 H2 F2 as2 g r).sq,by rw[nZ,h1.length];exact zb _⟩⟩⟩;rw[qx] at e
  cases q:es[i]? with
  |none=>rw[q] at e;cases e
  |some y =>
   rw[q] at e;cases e;obtain⟨x,h3,h4⟩:=h1.get' q;have hq:=h2 H2 F2 as2 g r;refine⟨⟨xs,x,hq.sq,h3⟩,λz H3 hz=>?_⟩;obtain⟨T,x',rfl,hT,rfl,hx'⟩:=hz
   have:=hx' xs hq.sq
   rw[h3] at this;cases this;rw[zC];exact n6 r hT (Rps.cons Rp.int (Rps.cons (h4.grS g) Rps.nil))
 | _=>cases e
theorem Us{a:Expr}{p pos:Pos}{m:M D}(hm:X.mg "enumerate" = none)(h:SE X md P a m)(hg:Gl X "enumerate":=by rfl)(hs:starEach [a] X.env=[(false,eval a X.env)]:=by exact iG rfl)(hs':starEach [a] X.env=(false,eval a X.env)::starEach [] X.env:=by exact cD rfl):
  VI X md P (.Tuple elts x1 tpos) (.Call (.Name "enumerate" p) [a] [] pos) (Hd m):=(Uo hg hm (gZ h jw hs') hs).imp λσ H Q q=>by
 obtain⟨ρ,O,F,as,ds,O',r,s,e,k⟩:=q;obtain⟨d,O1,e1,e⟩:=Res.bind_ok e
 cases d with
 |str l =>
  dsimp only at e;split at e
  ·rename_i hl;cases e;refine⟨ρ,_,F,as,_,_,r,s,e1,λv H1 F1 as1 g1 r1 hv=>?_⟩;refine⟨l,by rw[(Sv.rp hv rfl).unS],hl,k _ H1 F1 as1 g1 r1 ⟨λi d H2 F2 as2 g r e=>?_,λH2 F2 as2 g r=>?_⟩⟩
   ·rw[qx] at e;unfold iQ at e;rw[zl] at e
    cases q:l[i]? with
    |none=>rw[q] at e;cases e
    |some c =>
     rw[q] at e;cases e;refine⟨(zh.mp q).1,λz H3 hz=>?_⟩;obtain⟨T,c',rfl,hT,rfl,hc'⟩:=hz;rw[q] at hc';cases hc';rw[zC];exact n6 r hT (Rps.cons Rp.int (Rps.cons Rp.str Rps.nil))
   ·show l.length<=_;rw[nZ];simp[iQ]
  ·cases e
 | _=>cases e
def uf:List D->Option (List (List Nat))
 | []=>some []
 | .str l::ds=>(uf ds).map (l :: ·)
 | _=>none
def Ut(m:M D):M D:=λρ O=>(m ρ O).bind λd O1=>match aZ O1 d with
 | .lst ds=>match uf ds with
  |some ls=>if(ls.map List.length).sum<=1000000 then .ok (.str ls.flatten) O1 else .no
  |none=>.no
 | _=>.no
def Uu(mo m:M D):M D:=λρ O=>(mo ρ O).bind λa O1=>(m ρ O1).bind λb O2=>match a,b with
 | .str l,.str n=>.ok (.bl (decide (l.take n.length=n))) O2
 | _,_=>.no
end
section
variable {K:Frag}{mg:Str->Option Value}{md:List Md}{P:Pt}{ρ:az}{σ:St}{H F:Hp}{as:List Addr}{O:ao}{i:Nat}{a:Addr}{xs xs':List V}{ds ds':List D}
theorem SlO.own(s:SlO K md P ρ σ H F as)(hm:md[i]?=some .o)(hρ:ρ[i]?=some (some (.lst ds))):∃a xs,σ[i]?=some (some (.ref a))/\H a=some (.lst xs)/\F a=none/\a∉as/\¬P a/\Rps K F as xs ds:=by
 obtain⟨v,h1,h2⟩:=s.sl i .o _ hm hρ
 rcases h2 with⟨h2,_⟩ | ⟨a,xs,es,rfl,e2,e3,e0,e4,e5,e6⟩
 ·cases h2
 ·cases e2;exact⟨a,xs,h1,e3,e0,e4,e5,e6⟩
theorem SlO.mut(s:SlO K md P ρ σ H F as)(hm:md[i]?=some .o)(hρ:ρ[i]?=some (some (.lst ds)))(hσ:σ[i]?=some (some (.ref a)))(hF:F a=none)(ha:a∉as)(hP:¬P a)(r:Rps K F as xs' ds'):SlO K md P (ρ.set i (some (.lst ds'))) σ (upd H a (.lst xs')) F as:=by
 have hi:i<md.length:=(zh.mp hm).1;refine⟨s.len,by rw[zU];exact s.len',λc p=>?_,λj m d e1 e2=>?_,λj k c es fs h1 h2 h3 h4 h5 h6=>?_,λx hx=>?_⟩
 ·have:=s.pd c p
  unfold upd
  split
  ·exact λz=>nomatch z
  ·exact this
 ·by_cases h:i=j
  ·subst h;rw[hm] at e1;cases e1;rw[zO (by rw[s.len'];exact hi)] at e2;cases e2;exact⟨_,hσ,.inr ⟨a,xs',ds',rfl,rfl,bJ,hF,ha,hP,r⟩⟩
  ·rw[zt h] at e2;obtain⟨v,q1,q2⟩:=s.sl j m d e1 e2;refine⟨v,q1,?_⟩
   cases m with
   |v=>exact q2
   |s =>
    rcases q2 with q2 | ⟨c,ys,es,z1,z2,z3,z4,z5,z6⟩
    ·exact .inl q2
    ·exact .inr ⟨c,ys,es,z1,z2,by rw[aK (λz=>hP (by rw[<-z];exact z5))];exact z3,z4,z5,z6⟩
   |o =>
    rcases q2 with q2 | ⟨c,ys,es,z1,z2,z3,z0,z4,z5,z6⟩
    ·exact .inl q2
    ·refine .inr ⟨c,ys,es,z1,z2,?_,z0,z4,z5,z6⟩;rw[aK]
     ·exact z3
     ·intro z;subst z z1 z2;exact h (s.inj i j c ds es hm e1 hρ e2 hσ q1)
 ·have f:∀k es,(ρ.set i (some (.lst ds')))[k]?=some (some (D.lst es))->∃es',ρ[k]?=some (some (D.lst es')):=λk es q=>by
   by_cases h:i=k
   ·subst h;exact⟨ds,hρ⟩
   ·rw[zt h] at q;exact⟨es,q⟩
  obtain⟨es',q3⟩:=f j es h3;obtain⟨fs',q4⟩:=f k fs h4;exact s.inj j k c es' fs' h1 h2 q3 q4 h5 h6
 ·obtain⟨p1,p2,p3⟩:=s.pin x hx
  have hne:i≠x.1:=λz=>by rw[<-z,hm] at p1;cases p1
  exact⟨p1,by rw[zt hne];exact p2,p3⟩
theorem ye{xs:List V}(hH:H a=some (.lst xs))(hP:¬P a){o:HO}:GrS P H F as (upd H a o) F as :=
 ⟨λ_ _ _ _ _ _=>rfl,Same.refl F,⟨[],by simp,λ_ h=>nomatch h⟩,λc u p e _ _=>by rw[aK (λz=>hP (by rw[<-z];exact p))];exact e,λc e=>by
  by_cases h:c=a
  ·subst h;rw[bJ] at e;cases e
  ·rwa [aK h] at e,λc o' u e=>by rw[aK (λz=>by rw[z,hH] at e;cases e)];exact e⟩
theorem RlO.mut(r:RlO K mg O H F as)(hF:F a=none)(ha:a∉as){o:HO}:RlO K mg O (upd H a o) F as:=by
 refine⟨λc u e=>?_,r.fd,r.nd,r.len,r.fa,λn c u hc hu=>(r.ob n c u hc hu).keep (aK ?_) (Same.refl F) λ_ _ h=>h⟩
 ·rw[aK (bT e hF)];exact r.fh c u e
 ·intro z;subst z;exact ha (zy hc)
end
section
variable {X:Cx}{md:List Md}{P:Pt}{R:RR}
def cQ(i:Nat)(m:M D):MS:=λρ O=>match m ρ O with
 | .ok d O'=>match ρ[i]? with
  |some (some (.lst ds))=>if ds.length<1000000 then .nx (ρ.set i (some (.lst (ds++[d])))) O' else .no
  | _=>.no
 | .ex x O'=>.ex x O'
 | .no=>.no
theorem Uv{i:Nat}{m:M D}{ρ:az}{O:ao}(K:Frag)(mg:Str->Option Value){D:Ends}{H F:Hp}{as:List Addr}(k:ig K mg md P R D H F as (cQ i m ρ O)):
  ∃d O' ds,m ρ O=.ok d O'/\ρ[i]?=some (some (.lst ds))/\ds.length<1000000/\ig K mg md P R D H F as (.nx (ρ.set i (some (.lst (ds++[d])))) O'):=by
 unfold cQ at k;split at k
 ·rename_i d O' e;split at k
  ·rename_i ds e2;split at k
   ·rename_i hz;exact⟨d,O',ds,e,e2,hz,k⟩
   ·exact False.elim k
  ·exact False.elim k
 ·exact False.elim k
 ·exact False.elim k
theorem iu(i:Nat){x:Str}{p apos cpos pos:Pos}{e:Expr}{m:M D}(h:VE X md P e m)(hm:md[i]?=some .o:=by rfl)(hN:X.N[i]?=some x:=by rfl)(hv:Vis X.env.scope x:=by first | exact Or.inl rfl | exact Or.inr (Or.inl rfl) | exact Or.inr (Or.inr rfl))
  (hd:(x == ("__debug__":Str))=false:=by decide) (hcd:(x == ("__classdict__":Str))=false:=by decide)
  (hbase:attributeBase (.Name x p) "append" X.env (eval (.Name x p) X.env)=eval (.Name x p) X.env:=by rfl)
  (hfew:((backTo cpos (starEach [e] X.env)).all (λx=>!x.1)&&(backToKw cpos (keywordEach [] X.env)).all (λx=>x.1.isSome)&&decide ([e].length+([]:List Keyword).length+(if([]:List Keyword).isEmpty then 0 else 1)<30))=true:=by rfl)
  (hline:(apos.endLine == cpos.line)=true:=by rfl) (hs:starEach [e] X.env=(false,eval e X.env)::starEach [] X.env:=by exact cD rfl) (hplain:(backTo cpos (starEach [] X.env)).any (·.1)=false:=by exact eO rfl)
  (hsw:swapsWith (.Call (.Attribute (.Name x p) "append" apos) [e] [] cpos) none pos.line X.env=pure false:=by rfl):
  VS X md P R (.Expr (.Call (.Attribute (.Name x p) "append" apos) [e] [] cpos) pos) (cQ i m):=
 (sU (wZ PySem.F.plainAttrs_list PySem.F.slot_list_append PySem.F.type_list_append Rj (lR (i:=i) hN hv hd hcd) (gZ h jw hs) hbase hfew hline hs hplain) hsw).imp λD σ H q=>by
  obtain⟨ρ,O,F,as,r,s,k⟩:=q;obtain⟨d,O',ds,e,e2,hz,k⟩:=Uv X.K X.mg k;obtain⟨a,xs,h1,h2,h3,h4,h5,h6⟩:=s.own hm e2;refine⟨_,h1,.inl ⟨rfl,xs,.inl (.inl h2)⟩,ρ,O,F,as,d,O',r,s,e,λy H1 F1 as1 g1 r1 hy=>?_⟩;have s1:=s.step g1
  have hn:H a≠none:=by rw[h2];exact λz=>nomatch z
  have q2:=g1.fr _ _ h2 h4 rfl
  have q3:F1 a=none:=by rw[g1.fz a _ h2 h4 rfl];exact h3
  have q4:=g1.out h4 hn
  have hn1:H1 a≠none:=by rw[q2];exact λz=>nomatch z
  exact⟨a,xs,y,rfl,rfl,q2,by rw[h6.length];exact zA hz (by decide),k σ _ F1 as1 (g1.toS.trans (ye q2 h5)) (r1.mut q3 q4) (s1.mut hm e2 h1 q3 q4 h5 ((h6.gr g1).snoc hy))⟩
def Uw(K:Frag):V->List V->Hp->VK->Prop:=λx vs H Q=>∃l b xs zs,x=.ref l/\vs=[.ref b]/\H l=some (.lst xs)/\RdK K H b zs/\xs.length+zs.length<=sizeLine/\Q .non (upd H l (.lst (xs++zs)))
theorem Hf:MtM X "list.extend" (Uw X.K):=by
 intro pins s σ H x vs v us Q I rx rv h;obtain⟨l,b,xs,zs,rfl,rfl,hH,hB,hz,q⟩:=h;cases rx;obtain⟨u,rfl,ru⟩:=rv.one;cases ru;obtain⟨z,its,n,r,hl,e⟩:=I.lstM hH;obtain⟨z2,its2,n2,r2,e2⟩:=hB.ok I;have hl2:=r2.length
 have hsz:its.toArray.size+its2.toArray.size<=sizeLine:=by rw[zq,zq];omega
 have hlong:¬(!its.toArray.isEmpty&&Builtin.List.listTooLong (its.toArray.size+its2.toArray.size))=true:=by
  rw[FJ hsz,Bool.and_false];exact zk
 refine call_meets F.slot_list_extend ⟨_,e,rfl⟩ F.entry_list_extend (F.args_list_extend_2 _ _)
  (AutoSeq1.list_extend_list_list_0 l its.toArray n b its2.toArray n2 hlong (by rw[zq];omega) (by omega)) ⟨e,e2,?_⟩
 refine⟨.non,_,I.lset (its':=its++its2) hH e (by simp) (r.append r2) ?_,rfl,q⟩;rw[ze];omega
def oh(i:Nat)(m:M D):MS:=λρ O=>match m ρ O with
 | .ok d O'=>match ρ[i]?,aZ O' d with
  |some (some (.lst ds)),.lst es=>if ds.length+es.length<=1000000 then .nx (ρ.set i (some (.lst (ds++es)))) O' else .no
  | _,_=>.no
 | .ex x O'=>.ex x O'
 | .no=>.no
theorem Ux{i:Nat}{m:M D}{ρ:az}{O:ao}(K:Frag)(mg:Str->Option Value){D:Ends}{H F:Hp}{as:List Addr}(k:ig K mg md P R D H F as (oh i m ρ O)):
  ∃d O' ds es,m ρ O=.ok d O'/\ρ[i]?=some (some (.lst ds))/\aZ O' d=.lst es/\ds.length+es.length<=1000000/\ig K mg md P R D H F as (.nx (ρ.set i (some (.lst (ds++es)))) O'):=by
 unfold oh at k;split at k
 ·rename_i d O' e;split at k
  ·rename_i ds es e2 e3;split at k
   ·rename_i hz;exact⟨d,O',ds,es,e,e2,e3,hz,k⟩
   ·exact False.elim k
  ·exact False.elim k
 ·exact False.elim k
 ·exact False.elim k
theorem Uy(i:Nat){x:Str}{p apos cpos pos:Pos}{e:Expr}{m:M D}(h:SE X md P e m)(hm:md[i]?=some .o:=by rfl)(hN:X.N[i]?=some x:=by rfl)(hv:Vis X.env.scope x:=by first | exact Or.inl rfl | exact Or.inr (Or.inl rfl) | exact Or.inr (Or.inr rfl))
  (hd:(x == ("__debug__":Str))=false:=by decide) (hcd:(x == ("__classdict__":Str))=false:=by decide)
  (hbase:attributeBase (.Name x p) "extend" X.env (eval (.Name x p) X.env)=eval (.Name x p) X.env:=by rfl)
  (hfew:((backTo cpos (starEach [e] X.env)).all (λx=>!x.1)&&(backToKw cpos (keywordEach [] X.env)).all (λx=>x.1.isSome)&&decide ([e].length+([]:List Keyword).length+(if([]:List Keyword).isEmpty then 0 else 1)<30))=true:=by rfl)
  (hline:(apos.endLine == cpos.line)=true:=by rfl) (hs:starEach [e] X.env=(false,eval e X.env)::starEach [] X.env:=by exact cD rfl) (hplain:(backTo cpos (starEach [] X.env)).any (·.1)=false:=by exact eO rfl)
  (hsw:swapsWith (.Call (.Attribute (.Name x p) "extend" apos) [e] [] cpos) none pos.line X.env=pure false:=by rfl):
  VS X md P R (.Expr (.Call (.Attribute (.Name x p) "extend" apos) [e] [] cpos) pos) (oh i m):=
 (sU (wZ PySem.F.plainAttrs_list PySem.F.slot_list_extend PySem.F.type_list_extend Hf (lR (i:=i) hN hv hd hcd) (gZ h jw hs) hbase hfew hline hs hplain) hsw).imp λD σ H q=>by
  obtain⟨ρ,O,F,as,r,s,k⟩:=q;obtain⟨d,O',ds,es,e,e2,e3,hz,k⟩:=Ux X.K X.mg k;obtain⟨a,xs,h1,h2,h3,h4,h5,h6⟩:=s.own hm e2;refine⟨_,h1,.inl ⟨rfl,xs,.inl (.inl h2)⟩,ρ,O,F,as,d,O',r,s,e,λy H1 F1 as1 g1 r1 hy=>?_⟩;have s1:=s.step g1
  have hn:H a≠none:=by rw[h2];exact λz=>nomatch z
  have q2:=g1.fr _ _ h2 h4 rfl
  have q3:F1 a=none:=by rw[g1.fz a _ h2 h4 rfl];exact h3
  have q4:=g1.out h4 hn
  have hn1:H1 a≠none:=by rw[q2];exact λz=>nomatch z
  have ly:=Sv.lk hy r1;rw[e3] at ly;obtain⟨b,zs,rfl,w1,w2⟩:=ly.list r1.fh;exact⟨a,b,xs,zs,rfl,rfl,q2,w1,by rw[h6.length,w2.length];exact fQ hz,k σ _ F1 as1 (g1.toS.trans (ye q2 h5)) (r1.mut q3 q4) (s1.mut hm e2 h1 q3 q4 h5 (Rps.append w2 (h6.gr g1)))⟩
def mq(i:Nat)(mi m:M D):MS:=λρ O=>match m ρ O with
 | .ok d O1=>match mi ρ O1 with
  | .ok (.int j) O2=>match ρ[i]? with
   |some (some (.lst ds))=>match ixN ds.length j with
    |some n=>.nx (ρ.set i (some (.lst (ds.set n d)))) O2
    |none=>.no
   | _=>.no
  | _=>.no
 | .ex x O'=>.ex x O'
 | .no=>.no
theorem Uz(i:Nat){x:Str}{p pos apos:Pos}{e ix:Expr}{mi m:M D}(h:VE X md P e m)(hi:VE X md P ix mi)(hm:md[i]?=some .o:=by rfl)(hN:X.N[i]?=some x:=by rfl)(hv:Vis X.env.scope x:=by first | exact Or.inl rfl | exact Or.inr (Or.inl rfl) | exact Or.inr (Or.inr rfl))
  (hd:(x == ("__debug__":Str))=false:=by decide) (hcd:(x == ("__classdict__":Str))=false:=by decide)
  (ha:∀v,assign (.Subscript (.Name x p) ix apos) X.env v=(do
   let ov <-holding [v] (eval (.Name x p) X.env)
   let iv <-holding [v,ov] (eval ix X.env)
   standAt apos
   holding [v,ov,iv] (setItem ov iv v)
   release [v,ov,iv] []):=by intro _;rfl)
  (hs:swapsWithSole [.Subscript (.Name x p) ix apos] e pos.line X.env=pure false:=by rfl) (hw:swappedStores [.Subscript (.Name x p) ix apos] e X.env=pure none:=by rfl)
  (h1:(assignEach [.Subscript (.Name x p) ix apos] X.env).map (·.2)=[assign (.Subscript (.Name x p) ix apos) X.env]:=by rfl):
  VS X md P R (.Assign [.Subscript (.Name x p) ix apos] e pos) (mq i mi m):=
 (Eh h (Eg (lR (i:=i) hN hv hd hcd) hi set_list ha) hs hw h1).imp λD σ H q=>by
  obtain⟨ρ,O,F,as,r,s,k⟩:=q;unfold mq at k;split at k
  ·rename_i d O1 e1;split at k
   ·rename_i j O2 e2;split at k
    ·rename_i ds e3;split at k
     ·rename_i n e4;obtain⟨a,xs,h1,h2,h3,h4,h5,h6⟩:=s.own hm e3;refine⟨ρ,O,F,as,d,O1,r,s,e1,λy H1 F1 as1 g1 r1 hy=>?_⟩;refine⟨_,h1,ρ,O1,F1,as1,.int j,O2,r1,s.step g1,e2,λz H2 F2 as2 g2 r2 hz=>?_⟩;have g:=g1.trans g2
      have hn:H a≠none:=by rw[h2];exact λz=>nomatch z
      have q2:=g.fr _ _ h2 h4 rfl
      have q3:F2 a=none:=by rw[g.fz a _ h2 h4 rfl];exact h3
      have q4:=g.out h4 hn
      have hn1:H2 a≠none:=by rw[q2];exact λz=>nomatch z
      exact⟨a,xs,j,n,rfl,Rp.unI hz,q2,by rw[h6.length];exact e4,k σ _ F2 as2 (g.toS.trans (ye q2 h5)) (r2.mut q3 q4) ((s.step g).mut hm e3 h1 q3 q4 h5 ((h6.gr g).set n (Rp.gr hy g2)))⟩
     ·exact False.elim k
    ·exact False.elim k
   ·exact False.elim k
  ·exact False.elim k
  ·exact False.elim k
end
def putD(f:Str)(v:D):List (Str×D)->List (Str×D)
 | []=>[(f,v)]
 | (g,x)::r=>if g=f then(g,v)::r else(g,x)::putD f v r
section
variable {K:Frag}{F:Hp}{as:List Addr}
theorem FsR.cons_inv{gs:List (Str×V)}{f:Str}{d:D}{fs:List (Str×D)}(h:FsR K F as gs ((f,d)::fs)):∃v gs',gs=(f,v)::gs'/\Rp K F as v d/\FsR K F as gs' fs:=by
 obtain⟨h1,h2⟩:=h
 cases gs with
 |nil=>cases h1
 |cons g gs' =>
  obtain⟨g1,g2⟩:=g;simp only[zj,List.cons.injEq] at h1;obtain⟨x,r,e,h3,h4⟩:=h2.un;simp only[zj,List.cons.injEq] at e;obtain⟨rfl,rfl⟩:=e;exact⟨g2,gs',by rw[h1.1],h3,⟨h1.2,h4⟩⟩
theorem FsR.nil_inv{gs:List (Str×V)}(h:FsR K F as gs []):gs=[]:=List.map_eq_nil_iff.mp h.nm
theorem FsR.get:∀{fs:List (Str×D)}{gs:List (Str×V)}{f:Str}{d:D},FsR K F as gs fs->fs.lookup f=some d->∃v,gs.lookup f=some v/\Rp K F as v d
 | [],_,_,_,_,e=>by cases e
 | (g,x)::fs,gs,f,d,h,e=>by
  obtain⟨v,gs',rfl,h1,h2⟩:=h.cons_inv;rw[List.lookup_cons] at e ⊢
  cases q:f == g with
  |true =>
   rw[q] at e;cases e;exact⟨v,rfl,h1⟩
  |false =>
   rw[q] at e;exact FsR.get h2 e
theorem FsR.no:∀{fs:List (Str×D)}{gs:List (Str×V)}{f:Str},FsR K F as gs fs->fs.lookup f=none->gs.lookup f=none
 | [],_,_,h,e=>by rw[h.nil_inv];rfl
 | (g,x)::fs,gs,f,h,e=>by
  obtain⟨v,gs',rfl,h1,h2⟩:=h.cons_inv;rw[List.lookup_cons] at e ⊢
  cases q:f == g with
  |true=>rw[q] at e;cases e
  |false =>
   rw[q] at e;exact FsR.no h2 e
theorem FsR.put{f:Str}{v:V}{d:D}(hv:Rp K F as v d):∀{fs:List (Str×D)}{gs:List (Str×V)},FsR K F as gs fs->FsR K F as (eG f v gs) (putD f d fs)
 | [],_,h=>by
  rw[h.nil_inv];exact⟨rfl,Rps.cons hv Rps.nil⟩
 | (g,x)::fs,gs,h=>by
  obtain⟨u,gs',rfl,h1,h2⟩:=h.cons_inv;rw[eG,putD]
  by_cases q:g=f
  ·rw[if_pos q,if_pos q];exact⟨by simp[h2.nm],Rps.cons hv h2.vl⟩
  ·rw[if_neg q,if_neg q];have ih:=FsR.put (f:=f) hv h2;exact⟨by simp[ih.nm],Rps.cons h1 ih.vl⟩
theorem FsR.length{fs:List (Str×D)}{gs:List (Str×V)}(h:FsR K F as gs fs):gs.length=fs.length:=by
 have:=congrArg List.length h.nm
 simpa using this
theorem RlO.set{mg:Str->Option Value}{O:ao}{H:Hp}{n:Nat}{a:Addr}{o:Ob}{u:HO}(r:RlO K mg O H F as)(ha:as[n]?=some a)(ho:ObR K mg (upd H a u) F as a o):RlO K mg (O.set n o) (upd H a u) F as:=by
 have hF:=r.fa a (zy ha);refine⟨λc w e=>?_,r.fd,r.nd,by rw[zU];exact r.len,r.fa,λk c w hc hw=>?_⟩
 ·rw[aK (bT e hF)];exact r.fh c w e
 ·by_cases h:n=k
  ·subst h;rw[ha] at hc;cases hc;rw[zO (by rw[<-r.len];exact(zh.mp ha).1)] at hw;cases hw;exact ho
  ·rw[zt h] at hw
   refine(r.ob k c w hc hw).keep (aK ?_) (Same.refl F) λ_ _ h=>h
   intro z;subst z;obtain⟨l1,q1⟩:=zh.mp ha;obtain⟨l2,q2⟩:=zh.mp hc;exact h ((List.getElem_inj r.nd).mp (q1.trans q2.symm))
end
def KC(K:Frag)(mg:Str->Option Value)(c f:Str):Prop:=∃C,mg c=some (.ref C)/\Cls K C/\lV K C f
section
variable {X:Cx}{md:List Md}{P:Pt}{R:RR}
def d8(cs:List Str)(f:Str)(m:M D):M D:=λρ O=>(m ρ O).bind λd O1=>match d with
 | .ob n=>match O1[n]? with
  |some (.ins c fs)=>if c∈cs then match fs.lookup f with
   |some y=>.ok y O1
   |none=>.no else .no
  | _=>.no
 | _=>.no
theorem mz{cs:List Str}{f:Str}{o:Expr}{pos:Pos}{m:M D}(hc:∀c∈cs,KC X.K X.mg c f)(h:VE X md P o m)(hb:attributeBase o f X.env (eval o X.env)=eval o X.env:=by rfl):VE X md P (.Attribute o f pos) (d8 cs f m):=(Qo h hb).imp λσ H Q q=>by
 obtain⟨ρ,O,F,as,d,O',r,s,e,k⟩:=q;obtain⟨x,O1,e1,e⟩:=Res.bind_ok e
 cases x with
 |ob n =>
  dsimp only at e;split at e
  ·rename_i c fs eo;split at e
   ·rename_i hcs;split at e
    ·rename_i y ey;cases e;refine⟨ρ,_,F,as,_,_,r,s,e1,λv H1 F1 as1 g1 r1 hv=>?_⟩;obtain⟨a,rfl,ha⟩:=Rp.unO hv;obtain⟨C,dx,gs,h1,h2,h3⟩:=r1.ob n a _ ha eo;obtain⟨C',h4,h5,h6⟩:=hc c hcs;rw[h1] at h4;cases h4;obtain⟨w,h7,h8⟩:=h3.get ey;exact⟨a,C,dx,gs,w,rfl,h2,h5,h6,h7,k w H1 F1 as1 g1 r1 h8⟩
    ·cases e
   ·cases e
  ·cases e
 | _=>cases e
def j4(cs:List Str)(f:Str)(mo mv:M D):MS:=λρ O=>match mv ρ O with
 | .ok d O1=>match mo ρ O1 with
  | .ok (.ob n) O2=>match O2[n]? with
   |some (.ins c fs)=>if c∈cs/\fs.length<900 then .nx ρ (O2.set n (.ins c (putD f d fs))) else .no
   | _=>.no
  | _=>.no
 | .ex x O'=>.ex x O'
 | .no=>.no
theorem Hg{cs:List Str}{f:Str}{o value:Expr}{pos pos':Pos}{mo mv:M D}(hc:∀c∈cs,KC X.K X.mg c f)(ho:VE X md P o mo)(hv:VE X md P value mv)(hs:swapsWith value (some (.Attribute o f pos')) pos.line X.env=pure false:=by rfl):VS X md P R (.Assign [.Attribute o f pos'] value pos) (j4 cs f mo mv):=(Qp ho hv hs).imp λD σ H q=>by
 obtain⟨ρ,O,F,as,r,s,k⟩:=q;unfold j4 at k;split at k
 ·rename_i d O1 e1;split at k
  ·rename_i n O2 e2;split at k
   ·rename_i c fs eo;split at k
    ·rename_i hcs;refine⟨ρ,O,F,as,d,O1,r,s,e1,λy H1 F1 as1 g1 r1 hy=>?_⟩;refine⟨ρ,O1,F1,as1,.ob n,O2,r1,s.step g1,e2,λz H2 F2 as2 g2 r2 hz=>?_⟩;have g:=g1.trans g2;obtain⟨a,rfl,ha⟩:=Rp.unO hz;obtain⟨C,dx,gs,h1,h2,h3⟩:=r2.ob n a _ ha eo;obtain⟨C',h4,h5,h6⟩:=hc c hcs.1;rw[h1] at h4;cases h4;have hmem:=zy ha
     have hn:H2 a≠none:=by rw[h2];exact λz=>nomatch z
     have gg:Gr H2 F2 as2 (upd H2 a (.ins C dx (eG f y gs))) F2 as2:=⟨λ_ _ _ _ _=>rfl,Same.refl _,⟨[],by simp,λ_ h=>nomatch h⟩,λb u e hb _=>by rw[aK (λz=>hb (by rw[z];exact hmem))];exact e,λb e=>by
      by_cases h:b=a
      ·subst h;rw[bJ] at e;cases e
      ·rwa [aK h] at e,λb o' u e=>by rw[aK (λz=>by rw[z,h2] at e;cases e)];exact e⟩
     refine⟨a,C,dx,gs,rfl,h2,h5,h6,by rw[h3.length];omega,?_⟩;exact k σ _ F2 as2 (g.trans gg).toS (r2.set ha ⟨C,dx,_,h1,bJ,h3.put (Rp.gr hy g2)⟩) ((s.step g).step gg)
    ·exact False.elim k
   ·exact False.elim k
  ·exact False.elim k
 ·exact False.elim k
 ·exact False.elim k
end
section
variable {Pr:Program}{w:World}{K:Frag}{mg:Str->Option Value}{base:Heap}
theorem Hh{x qual:Str}{st:Stmt}{f:Addr}{fd:FuncData}{N ps:List Str}{k:Nat}(Fn:Fun K x qual st f fd)(S:bN N ps (aY st))
  (pm lm:List Md) {R:RR}{b:MS} (hR:gD R) (hR0:∀N H F as,R N H F as .non .non) (hpl:pm.length=ps.length) (hl:(pm++lm).length=N.length) (hp:∀m∈pm,m≠.o)
  (body:∀(cdv:Value) (A:Around) (outer:List Env) (s:Shared) (H:Hp) (E:XK),bG k (A.deeper (envOfC qual (aY st) s.heap.objs.size f cdv))->∀P,VSs ((iD CX0 Pr w K mg base N qual (aY st) f cdv A outer s H E).nox) (pm++lm) P R (eU st) b):
  dJ Pr w K mg base CX0 (k+1) f fd ps (vSp K mg pm R (bL N.length b)):=by
 refine Fn.ok S (λvs H Q E h=>?_) (λcdv A outer s H vs Q E hr h=>?_)
 ·obtain⟨ds,O,F,as,d,O',r,a,_⟩:=h;rw[a.len.1,hpl]
 ·obtain⟨ds,O,F,as,d,O',r,a,e,q⟩:=h;refine⟨_,body cdv A outer s H E hr (Pt.all H),?_⟩;refine⟨_,O,F,as,r,GP a hl hp,?_⟩;unfold bL at e
  cases eb:b (ds.map some++List.replicate (N.length - ds.length) none) O with
  |rt d' O2 =>
   rw[eb] at e;cases e
   exact λv H' F' as' g r' hv=>q v H' F' as' g.gr r' (hR _ _ _ _ _ _ _ (λc hc=>Classical.not_not.mp hc) hv)
  |nx ρ O2 =>
   rw[eb] at e;cases e
   exact λσ' H' F' as' g r' _=>q _ H' F' as' g.gr r' (hR0 _ _ _ _)
  |bk _ _=>rw[eb] at e;cases e
  |ct _ _=>rw[eb] at e;cases e
  |ex _ _=>rw[eb] at e;cases e
  |no=>rw[eb] at e;cases e
def mD(K:Frag)(mg:Str->Option Value)(c m qual:Str)(st:Stmt):Prop:=∃C f fd,mg c=some (.ref C)/\Cls K C/\pO K C m f/\Fun K m qual st f fd
def iR(P:Program)(w:World)(K:Frag)(mg:Str->Option Value)(base:Heap)(c m:Str)(ps:List Str)(k:Nat)(sp:Sp):Prop :=
 ∃C f fd,mg c=some (.ref C)/\Cls K C/\pO K C m f/\Binds K fd ps []/\dJ P w K mg base CX0 k f fd ps sp
def yg(P:Program)(w:World)(K:Frag)(mg:Str->Option Value)(base:Heap)(c:Str)(ps:List Str)(k:Nat)(sp:Sp):Prop :=
 ∃C f fd,mg c=some (.ref C)/\Mk K C f/\Binds K fd ps []/\dJ P w K mg base CX0 k f fd ps sp
def yh(K:Frag)(mg:Str->Option Value)(c qual:Str)(st:Stmt):Prop:=∃C f fd,mg c=some (.ref C)/\Mk K C f/\Fun K "__init__" qual st f fd
theorem qy{c x qual:Str}{st:Stmt}{N ps:List Str}{k:Nat}(Df:mD K mg c x qual st)(S:bN N ps (aY st))
  (hb:∀(kV doc pm:Value) (an:Option Addr) (cdv ct:Value) (us:List Value),us.length=ps.length->bindArgs (PySem.W.fnOf x qual (g8 st) (eU st) (aY st) .none kV doc pm an cdv ct) ⟨us,[]⟩=pure (ps.zip us))
  (pm lm:List Md) {R:RR}{b:MS} (hR:gD R) (hR0:∀N H F as,R N H F as .non .non) (hpl:pm.length=ps.length:=by rfl) (hl:(pm++lm).length=N.length:=by rfl) (hp:∀m∈pm,m≠.o:=by decide)
  (body:∀(f:Addr) (cdv:Value) (A:Around) (outer:List Env) (s:Shared) (H:Hp) (E:XK),bG k (A.deeper (envOfC qual (aY st) s.heap.objs.size f cdv))->∀P,VSs ((iD CX0 Pr w K mg base N qual (aY st) f cdv A outer s H E).nox) (pm++lm) P R (eU st) b):
  iR Pr w K mg base c x ps (k+1) (vSp K mg pm R (bL N.length b)):=by
 obtain⟨C,f,fd,h1,h2,h3,h4⟩:=Df;exact⟨C,f,fd,h1,h2,h3,h4.binds hb,Hh h4 S pm lm hR hR0 hpl hl hp (body f)⟩
theorem UG{c qual:Str}{st:Stmt}{N ps:List Str}{k:Nat}(Df:yh K mg c qual st)(S:bN N ps (aY st))
  (hb:∀(kV doc pm:Value) (an:Option Addr) (cdv ct:Value) (us:List Value),us.length=ps.length->bindArgs (PySem.W.fnOf "__init__" qual (g8 st) (eU st) (aY st) .none kV doc pm an cdv ct) ⟨us,[]⟩=pure (ps.zip us))
  (pm lm:List Md) {R:RR}{b:MS} (hR:gD R) (hR0:∀N H F as,R N H F as .non .non) (hpl:pm.length=ps.length:=by rfl) (hl:(pm++lm).length=N.length:=by rfl) (hp:∀m∈pm,m≠.o:=by decide)
  (body:∀(f:Addr) (cdv:Value) (A:Around) (outer:List Env) (s:Shared) (H:Hp) (E:XK),bG k (A.deeper (envOfC qual (aY st) s.heap.objs.size f cdv))->∀P,VSs ((iD CX0 Pr w K mg base N qual (aY st) f cdv A outer s H E).nox) (pm++lm) P R (eU st) b):
  yg Pr w K mg base c ps (k+1) (vSp K mg pm R (bL N.length b)):=by
 obtain⟨C,f,fd,h1,h2,h4⟩:=Df;exact⟨C,f,fd,h1,h2,h4.binds hb,Hh h4 S pm lm hR hR0 hpl hl hp (body f)⟩
end
section
variable {X:Cx}{md:List Md}{P:Pt}{R:RR}{k:Nat}{c m:Str}{ps:List Str}{p pos apos:Pos}{o e:Expr}{es:List Expr}{pm:List Md}{cf:List D->ao->Res D}{mo:M D}{ma:M (List D)}
def cR(c m:Str)(cf:List D->ao->Res D)(mo:M D)(ma:M (List D)):M D:=λρ O=>(mo ρ O).bind λd O1=>match d with
 | .ob n=>match O1[n]? with
  |some (.ins c' fs)=>if c'=c/\(fs.lookup m).isNone=true then(ma ρ O1).bind λds O2=>cf (.ob n::ds) O2 else .no
  | _=>.no
 | _=>.no
theorem Hi{K:Frag}{mg:Str->Option Value}{C:Addr}(hR:gD R)(hC:mg c=some (.ref C)){E:XK}{σ:St}{H:Hp}{Q:VK}(q:tM K mg md P R (cR c m cf mo ma) σ H Q):
  wU C m (vSp K mg (.v::pm) R cf) [] E (tM K mg md P (rV K) mo) (tMA K mg md P pm ma) σ H Q:=by
 obtain⟨ρ,O,F,as,d,O',r,s,e,k⟩:=q;obtain⟨x,O1,e1,e⟩:=Res.bind_ok e
 cases x with
 |ob n =>
  dsimp only at e;split at e
  ·rename_i c' fs eo;split at e
   ·rename_i hc;obtain⟨ds,O2,e2,e⟩:=Res.bind_ok e;refine⟨ρ,O,F,as,.ob n,O1,r,s,e1,λv H1 F1 as1 g1 r1 hv=>?_⟩;obtain⟨a,rfl,ha⟩:=Rp.unO hv;obtain⟨C',dx,gs,h1,h2,h3⟩:=r1.ob n a _ ha eo;rw[hc.1,hC] at h1;cases h1;refine⟨a,dx,gs,rfl,h2,h3.no (Option.isNone_iff_eq_none.mp hc.2),?_⟩;refine⟨ρ,O1,F1,as1,ds,O2,r1,s.step g1,e2,λvs H2 F2 as2 g2 r2 hvs=>?_⟩;dsimp only;rw[zS];exact⟨.ob n::ds,O2,F2,as2,d,O',r2,⟨Rp.gr hv g2,hvs⟩,e,λv' H' F' as' g' r' hw=>k v' H' F' as' ((g1.trans g2).trans g') r' (hR _ _ _ _ _ _ _ (λb hb=>(g1.trans g2).dm b hb) hw)⟩
   ·cases e
  ·cases e
 | _=>cases e
theorem Hj{pl:Sem Bool}(hR:gD R)(M:iR X.prog X.w X.K X.mg X.base c m ps k (vSp X.K X.mg (.v::pm) R cf))(hr:bG k X.A)(ho:VE X md P o mo)(ha:AE X md P pm (e::es) ma)
  (hst:starEach (e::es) X.env=(false,eval e X.env)::starEach es X.env:=by exact cD rfl) (hpl:(backTo pos (starEach es X.env)).any (·.1)=false:=by exact eO rfl)
  (ht:eval (.Call (.Attribute o m apos) (e::es) [] pos) X.env=(do
   let ov <-eval o X.env
   standAt apos.atName
   let (f,first) <-holding [ov] (getMethod ov m pl)
   callWith pos f first (backTo pos (starEach (e::es) X.env)) (backToKw pos (keywordEach [] X.env))):=by rfl):
  PE X (.Call (.Attribute o m apos) (e::es) [] pos) (tM X.K X.mg md P R (cR c m cf mo ma)):=by
 obtain⟨C,f,fd,h1,h2,h3,h4,h5⟩:=M
 exact(Qy (pl:=pl) (E:=E0) (ds:=[]) (dvs:=[]) ho h2 h3 h5 hr h4 .nil tE ha hst hpl ht).imp λ_ _ _ q=>Hi hR h1 q
theorem UJ{pl:Sem Bool}(hR:gD R)(M:iR X.prog X.w X.K X.mg X.base c m ps k (vSp X.K X.mg [.v] R cf))(hr:bG k X.A)(ho:VE X md P o mo)
  (ht:eval (.Call (.Attribute o m apos) [] [] pos) X.env=(do
   let ov <-eval o X.env
   standAt apos.atName
   let (f,first) <-holding [ov] (getMethod ov m pl)
   callWith pos f first (backTo pos (starEach [] X.env)) (backToKw pos (keywordEach [] X.env))):=by rfl):
  PE X (.Call (.Attribute o m apos) [] [] pos) (tM X.K X.mg md P R (cR c m cf mo au)):=by
 obtain⟨C,f,fd,h1,h2,h3,h4,h5⟩:=M
 refine(Qz (pl:=pl) (E:=E0) (ds:=[]) (dvs:=[]) ho h2 h3 h5 hr h4 .nil tE ht).imp λσ H Q q=>?_
 obtain⟨ρ,O,F,as,d,O',r,s,e,k⟩:=Hi (pm:=[]) (E:=E0) hR h1 q;refine⟨ρ,O,F,as,d,O',r,s,e,λv H' F' as' g r' hv=>?_⟩;obtain⟨a,dx,fs,e1,e2,e3,t⟩:=k v H' F' as' g r' hv;refine⟨a,dx,fs,e1,e2,e3,?_⟩;obtain⟨ρ1,O1,F1,as1,ds1,O2,r1,s1,e4,k4⟩:=t;cases e4;exact k4 [] H' F1 as1 Gr.refl r1 trivial
def mF(c:Str)(cf:List D->ao->Res D)(ma:M (List D)):M D:=λρ O=>(ma ρ O).bind λds O1=>match cf (.ob O1.length::ds) (O1++[.ins c []]) with
 | .ok .non O2=>.ok (.ob O1.length) O2
 | .ok _ _=>.no
 | .ex x O2=>.ex x O2
 | .no=>.no
theorem UL{K:Frag}{mg:Str->Option Value}{C:Addr}(hC:mg c=some (.ref C)){E:XK}{σ:St}{H:Hp}{Q:VK}(q:tM K mg md P (rV K) (mF c cf ma) σ H Q):
  Fe C (vSp K mg (.v::pm) (rV K) cf) [] E (tMA K mg md P pm ma) σ H Q:=by
 obtain⟨ρ,O,F,as,d,O',r,s,e,k⟩:=q;obtain⟨ds,O1,e1,e⟩:=Res.bind_ok e;split at e
 ·rename_i O2 ec;cases e;refine⟨ρ,O,F,as,ds,O1,r,s,e1,λvs H1 F1 as1 g1 r1 hvs=>?_⟩;intro x dx hx hdx hne;rw[zS]
  have hx2:upd H1 dx (.own x) x=none:=by rw[aK hne.symm];exact hx
  have gA:Gr H1 F1 as1 (upd H1 dx (.own x)) F1 as1:=Gr.lay hdx;have gB:Gr (upd H1 dx (.own x)) F1 as1 (upd (upd H1 dx (.own x)) x (.ins C dx [])) F1 as1:=Gr.lay hx2;have gC:Gr (upd (upd H1 dx (.own x)) x (.ins C dx [])) F1 as1 (upd (upd H1 dx (.own x)) x (.ins C dx [])) F1 as1:=Gr.refl;have gAB:=gA.trans gB;have g2:Gr H1 F1 as1 (upd (upd H1 dx (.own x)) x (.ins C dx [])) F1 (as1++[x]):=⟨gAB.fz,gAB.ff,⟨[x],rfl,λa ha=>by rw[zp.mp ha];exact hx⟩,λa o e ha hd=>gAB.fr a o e ha hd,gAB.dm,gAB.kz⟩
  have nx:x∉as1:=λz=>r1.all z hx
  have rB:=(r1.lay (o:=.own x) hdx).lay (o:=.ins C dx []) hx2
  have at_:∀(n:Nat) (a:Addr),as1[n]?=some a->(as1++[x])[n]?=some a:=λn a h=>by
   rw[zv (zh.mp h).1];exact h
  have r2:RlO K mg (O1++[.ins c []]) (upd (upd H1 dx (.own x)) x (.ins C dx [])) F1 (as1++[x]):=by
   refine⟨rB.fh,rB.fd,?_,by simp[r1.len],λa ha=>?_,λn a o ha ho=>?_⟩
   ·rw[zZ];refine⟨r1.nd,by simp,λa ha b hb=>?_⟩;rw[zp.mp hb];intro z;subst z;exact nx ha
   ·rcases zF.mp ha with z | z
    ·exact r1.fa a z
    ·rw[zp.mp z];exact r1.frF hx
   ·by_cases hn:n<O1.length
    ·rw[zv (by rw[r1.len];exact hn)] at ha;rw[zv hn] at ho;exact(rB.ob n a o ha ho).keep rfl (Same.refl _) at_
    ·have hn':n=O1.length:=by
      have:=(zh.mp ho).1
      simp at this
      omega
     subst hn';rw[zI (zb _),Nat.sub_self] at ho;rw[<-r1.len,zI (zb _),Nat.sub_self] at ha;cases ho;cases ha;exact⟨C,dx,[],hC,bJ,⟨rfl,Rps.nil⟩⟩
  have hox:Rp K F1 (as1++[x]) (.ref x) (.ob O1.length):=Rp.mkO (by rw[<-r1.len,zI (zb _),Nat.sub_self];rfl);refine⟨.ob O1.length::ds,_,F1,as1++[x],.non,_,r2,⟨hox,hvs.gr g2⟩,ec,λv H3 F3 as3 g3 r3 hv=>?_⟩;exact⟨Rp.unN hv,k _ H3 F3 as3 ((g1.trans g2).trans g3) r3 (Rp.gr hox g3)⟩
 ·cases e
 ·cases e
 ·cases e
theorem UT(M:yg X.prog X.w X.K X.mg X.base c ps k (vSp X.K X.mg (.v::pm) (rV X.K) cf))(hr:bG (k+1) X.A)(ha:AE X md P pm (e::es) ma)(hg:Gl X c:=by rfl)(hdb:(c == ("__debug__":Str))=false:=by decide)
  (he:starEach (e::es) X.env=(false,eval e X.env)::starEach es X.env:=by exact cD rfl) (hpl:(backTo pos (starEach es X.env)).any (·.1)=false:=by exact eO rfl):VE X md P (.Call (.Name c p) (e::es) [] pos) (mF c cf ma):=by
 obtain⟨C,f,fd,h1,h3,h4,h5⟩:=M
 exact(QC (E:=E0) (ds:=[]) (dvs:=[]) h3 h5 hr hg h1 h4 .nil tE ha hdb he hpl).imp λ_ _ _ q=>UL h1 q
end
section
variable {X:Cx}{md:List Md}{P:Pt}{R:RR}
def ou:D->Option (List D)
 | .lst ds=>some ds
 | .tup ds=>some ds
 | .str l=>if ascii l=true then some (iQ l) else none
 | _=>none
def cB(m:M D):M (List D):=λρ O=>(m ρ O).bind λd O1=>match ou d with
 |some ds=>.ok ds O1
 |none=>.no
theorem yj{e:Expr}{m:M D}(h:WE X md P e m):SE X md P e m:=h.imp λσ H Q q=>by
 obtain⟨ρ,O,F,as,d,O',r,s,e,k⟩:=q;refine⟨ρ,O,F,as,d,O',r,s,e,λv H' F' as' g r' hv=>k v H' F' as' g r' ?_⟩
 rcases hv with hv | ⟨a,xs,ds,e1,e2,e3,e4,e5,e6⟩
 ·exact .inl hv
 ·exact .inr ⟨a,xs,ds,e1,e2,e3,e4,e6⟩
theorem ug{tg e:Expr}{m:M D}(h:WE X md P e m):VI X md P tg e (cB m):=λpins s σ H Q I q=>by
 obtain⟨ρ,O,F,as,ds,O',r,sl,e,k⟩:=q;obtain⟨d,O1,e1,e⟩:=Res.bind_ok e
 cases d with
 |lst es =>
  cases e;exact Up h pins s σ H Q I ⟨ρ,O,F,as,_,_,r,sl,by unfold uc;rw[e1];rfl,k⟩
 |tup es =>
  cases e;exact Ha (dY (yj h)) pins s σ H Q I ⟨ρ,O,F,as,_,_,r,sl,by unfold xX mG;rw[e1];rfl,k⟩
 |str l =>
  simp only[ou] at e;split at e
  ·rename_i es hes;split at hes
   ·rename_i hl;cases hes;cases e;refine Hb (yj h) pins s σ H Q I ⟨ρ,O,F,as,iQ l,_,r,sl,?_,k⟩;unfold xZ;rw[e1];show(if ascii l=true then _ else _)=_;rw[if_pos hl]
   ·cases hes
  ·cases e
 | _=>cases e
theorem UV{tg e:Expr}{m:M D}(h:SE X md P e m):VIc X md P tg e (uc m):=(Ek h).imp λσ H Q q=>by
 obtain⟨ρ,O,F,as,ds,O',r,s,e,k⟩:=q;obtain⟨d,O1,e1,e⟩:=Res.bind_ok e
 cases d with
 |lst es =>
  cases e;refine⟨ρ,_,F,as,_,_,r,s,e1,λv H1 F1 as1 g1 r1 hv=>?_⟩
  obtain⟨a,xs,rfl,h1,h2⟩:∃a xs,v=.ref a/\Rps X.K F1 as1 xs ds/\∀(H2 F2:Hp) (as2:List Addr),Gr H1 F1 as1 H2 F2 as2->(∃O,RlO X.K X.mg O H2 F2 as2)->RdK X.K H2 a xs:=by
   rcases hv with hv | ⟨a,xs,ds',rfl,e,e3,e4,e6⟩
   ·obtain⟨a,xs,rfl,h1,h2⟩:=hv.unL;exact⟨a,xs,rfl,h2,λH2 F2 as2 g ⟨O,r⟩=>(h1.mono g.ff).mono r.fh⟩
   ·cases e;exact⟨a,xs,rfl,e6,λH2 F2 as2 g _=>.inl (.inl (g.fr _ _ e3 e4 rfl))⟩
  refine⟨a,rfl,⟨xs,(h2 H1 F1 as1 Gr.refl ⟨_,r1⟩).sq⟩,k _ H1 F1 as1 g1 r1 ⟨λi d H2 F2 as2 g r e=>?_,λH2 F2 as2 g r=>⟨xs,(h2 H2 F2 as2 g r).sq,by rw[h1.length];exact zb _⟩⟩⟩;obtain⟨x,h3,h4⟩:=h1.get' e;have q:=h2 H2 F2 as2 g r;refine⟨⟨xs,x,q.sq,h3⟩,λy H3 hy=>?_⟩;obtain⟨rfl,hy⟩:=hy
  have:=hy xs q.sq
  rw[h3] at this;cases this;exact⟨F2,Gr.refl,λ_ r=>r,h4.gr g⟩
 | _=>cases e
theorem jH{tg e:Expr}{m:M D}(h:SE X md P e m):VIc X md P tg e (cB m):=λpins s σ H Q I q=>by
 obtain⟨ρ,O,F,as,ds,O',r,sl,e,k⟩:=q;obtain⟨d,O1,e1,e⟩:=Res.bind_ok e
 cases d with
 |lst es =>
  cases e;exact UV h pins s σ H Q I ⟨ρ,O,F,as,_,_,r,sl,by unfold uc;rw[e1];rfl,k⟩
 |tup es =>
  cases e;exact tW (Ha (dY h)) pins s σ H Q I ⟨ρ,O,F,as,_,_,r,sl,by unfold xX mG;rw[e1];rfl,k⟩
 |str l =>
  simp only[ou] at e;split at e
  ·rename_i es hes;split at hes
   ·rename_i hl;cases hes;cases e;refine tW (Hb h) pins s σ H Q I ⟨ρ,O,F,as,iQ l,_,r,sl,?_,k⟩;unfold xZ;rw[e1];show(if ascii l=true then _ else _)=_;rw[if_pos hl]
   ·cases hes
  ·cases e
 | _=>cases e
def ym(m:M D):M (List D):=λρ O=>(m ρ O).bind λd O1=>match d with
 | .lst ds=>.ok (eZ 0 ds) O1
 | .str l=>if ascii l=true then .ok (eZ 0 (iQ l)) O1 else .no
 | _=>.no
variable {elts:List Expr}{x1:Nat}{tpos:Pos}
theorem UW{a:Expr}{p pos:Pos}{m:M D}(hm:X.mg "enumerate" = none)(h:WE X md P a m)(hg:Gl X "enumerate":=by rfl)(hs:starEach [a] X.env=[(false,eval a X.env)]:=by exact iG rfl)(hs':starEach [a] X.env=(false,eval a X.env)::starEach [] X.env:=by exact cD rfl):
  VI X md P (.Tuple elts x1 tpos) (.Call (.Name "enumerate" p) [a] [] pos) (ym m):=λpins s σ H Q I q=>by
 obtain⟨ρ,O,F,as,ds,O',r,sl,e,k⟩:=q;obtain⟨d,O1,e1,e⟩:=Res.bind_ok e
 cases d with
 |lst es =>
  cases e;exact Ur hm h hg hs hs' pins s σ H Q I ⟨ρ,O,F,as,_,_,r,sl,by unfold n8;rw[e1];rfl,k⟩
 |str l=>exact Us hm (yj h) hg hs hs' pins s σ H Q I ⟨ρ,O,F,as,ds,O',r,sl,by unfold Hd;rw[e1];exact e,k⟩
 | _=>cases e
end
theorem U0{P:Program}{w:World}{K:PySem.W.Frag}{mg mb:Str->Option Value}{CX:CXT}{k:Nat}{fa a:Addr}{fd:FuncData}{x:Str}{sp:Sp}{s₁:Shared}{vs:List Value}{ns:List Int}
  (KX:K.In s₁.heap) (hns:s₁.heap.Ns mainGlobals mg) (hb:s₁.heap.Ns builtinsNs mb) (hbb:∀x:Str,x≠"__name__"->mb x=bootBuiltins x) (hlim:s₁.heap.NoLimit) (hg:s₁.gens = #[])
  (ha:s₁.heap.get? a=some {cls:=.type "list",data:=.seq vs.toArray}) (hi:IntsAre vs ns) (hl:ns.length<=sizeLine) (hr:bG k callerA)
  (F:∀base:Heap,K.In base->base.Ns mainGlobals mg->dJ P w K mg base CX k fa fd [x] sp) (hbind:∀(s:Shared) (u:Value),BindsTo s fd ⟨[u],[]⟩ [(x,u)])
  (hsp:∀H:Hp,lX H->RdK K H a (ns.map V.int)->sp [.ref a] H (λv _=>v=.bl true) λ_ _ _=>False)
  (hCX:∀H e s',CX [] H s₁ (λ_ _ _=>False) e s'->False):
  codeAny (model P w) callerA (.call (.ref fa) ⟨[.ref a],[]⟩) (λr s'=>r=.ok (.ret (.bool true))/\OldK s₁.heap s'.heap/\s'.os=s₁.os/\AllBare s'.gens) s₁:=by
 have rv:=w5 hi;have lenV:=hi.length;have core:∀H:Hp,lX H->RdK K H a (ns.map V.int)->HOk P w H s₁.heap->(∀b,H b≠none->b=a)->(H a≠none->K.lookup a=none) ->
   codeAny (model P w) callerA (.call (.ref fa) ⟨[.ref a],[]⟩) (λr s'=>r=.ok (.ret (.bool true))/\OldK s₁.heap s'.heap/\s'.os=s₁.os/\AllBare s'.gens) s₁:=by
  intro H hO hS hok hA hK
  have base_of:∀{b:Addr}{o:Obj},s₁.heap.get? b=some o->H b=none->(fY s₁.heap H).get? b=some o:=λe n=>DR e n
  have noA:∀{b:Addr}{o:Obj}{es:Array DictEntry}{ep:Nat},s₁.heap.get? b=some o->o.data=.dict es ep->H b=none:=λ{b o es ep} e d=>by
   cases q:H b with
   |none=>rfl
   |some u =>
    have e':b=a:=hA b (by rw[q];simp);subst e';rw[ha] at e;cases e;have d':Data.seq vs.toArray _=Data.dict es ep:=d;cases d'
  have nsK:∀{b:Addr}{m:Str->Option Value},s₁.heap.Ns b m->(fY s₁.heap H).Ns b m:=λ{b m} ⟨o,es,ep,e,d,r⟩=>⟨o,es,ep,base_of e (noA e d),d,r⟩
  have hKb:K.In (fY s₁.heap H):=λb o e=>base_of (KX b o e) (by
   cases q:H b with
   |none=>rfl
   |some u =>
    have e':b=a:=hA b (by rw[q];simp);subst e'
    rw[hK (by rw[q];simp)] at e;cases e)
  have hM:Mod K mg (fY s₁.heap H):=⟨hKb,nsK hns,⟨mb,nsK hb,hbb⟩,let ⟨mc,h1,h2⟩:=hlim;⟨mc,nsK h1,h2⟩⟩;have e0:kJ P w K mg (fY s₁.heap H) callerA [] s₁ H:=⟨rfl,hM,λb o e=>DW e,Nat.le_of_eq (DQ _ _),trivial,λb hb=>absurd (show b∈([]:List Addr) from hb) (by simp),hok,.of_eq hg⟩
  refine codeAny_mono ((F _ hKb (nsK hns)).run callerA [] s₁ H ⟨[.ref a],[]⟩ [.ref a] [.ref a] _ _ hr e0 (hbind s₁ (.ref a)) (.cons rfl .nil) (hsp H hO hS)) λr s' h=>?_
  cases r with
  |error e=>exact(hCX H e s' h).elim
  |ok fl =>
   cases fl with
   |next=>exact False.elim h
   |brk=>exact False.elim h
   |cont=>exact False.elim h
   |ret u =>
    obtain⟨v,H',os,bare,un,hok',r',q⟩:=h;have q':v=.bl true:=q;subst q';obtain rfl:u=Value.bool true:=r';refine⟨rfl,OldK.of_keep λb o e=>?_,os,bare⟩
    cases q:H b with
    |none=>exact un.keep b o e q (by intro z;exact absurd (show b∈([]:List Addr) from z) (by simp)) (by simp)
    |some u =>
     rcases hO b with z | ⟨ob,xs,z⟩
     ·rw[q] at z;cases z
     ·have z2:=un.frzs b ob _ z;obtain⟨e1,_⟩:=hok b _ z;obtain⟨e2,_⟩:=hok' b _ z2;rw[e] at e1;cases e1;exact e2
 cases hk:K.lookup a with
 |some o =>
  have e:=KX a o hk;rw[ha] at e;cases e
  refine core (λ_=>none) (λ_=>.inl rfl) (.inr ⟨vs,_,hk,by rw[lenV];exact hl,rv⟩) (λb u z=>by have z':(none:Option HO)=some u:=z;cases z') (λb z=>absurd rfl z) λz=>absurd rfl z
 |none =>
  refine core (λb=>if b=a then some (.frz {cls:=.type "list",data:=.seq vs.toArray} (.lst (ns.map V.int))) else none) (λb=>?_) (.inl (.inr ⟨{cls:=.type "list",data:=.seq vs.toArray},if_pos rfl⟩)) (λb u z=>?_) (λb z=>?_) λ_=>hk
  ·by_cases hb:b=a
   ·exact .inr ⟨_,_,if_pos hb⟩
   ·exact .inl (if_neg hb)
  ·by_cases hb:b=a
   ·have z':=(if_pos hb).symm.trans z;cases z';subst hb;exact⟨ha,by rw[zd];exact hl,vs,_,rv,ha⟩
   ·have z':=(if_neg hb).symm.trans z;cases z'
  ·by_cases hb:b=a
   ·exact hb
   ·exact absurd (if_neg hb) z
theorem walk_ofR{l:PySem.W.OpenLaw}{n k:Nat}{q:Program}{loose:List Str}{XP:(Str->Option Value)->Heap->Prop}{YP:World->Heap->Prop}{d:DefRec}{K:Params->PySem.W.Frag}{CX:World->CXT}{sp:World->Sp}{x:Str}
  (hn:l.most=some n) (hn2:n<=sizeLine) (hdf:d.params.defaults=[]) (hr:bG k callerA)
  (hY:∀(w:World) (h:Heap),YP w h->(K w.params).In h)
  (F:∀(w:World) (mg:Str->Option Value) (fa:Addr) (h:Heap),(K w.params).In h->h.Ns mainGlobals mg->mg d.name=some (.ref fa) ->
   ∃fd:FuncData,(∀(s:Shared) (u:Value),BindsTo s fd ⟨[u],[]⟩ [(x,u)]) /\
    ∀base:Heap,(K w.params).In base->base.Ns mainGlobals mg->dJ l.prog w (K w.params) mg base (CX w) k fa fd [x] (sp w))
  (hsp:∀(w:World) (H:Hp) (a:Addr) (ns:List Int),ns.length<=n->lX H->RdK (K w.params) H a (ns.map V.int)->sp w [.ref a] H (λv _=>v=.bl true) λ_ _ _=>False)
  (hCX:∀(w:World) (H:Hp) (s:Shared) (e:Value) (s':Shared),CX w [] H s (λ_ _ _=>False) e s'->False):
  PySem.W.WalkO q loose XP YP l.row.toRowW d [] (λf vs=>PySem.call f vs):=by
 refine Att.attach_call hn hdf λw s₀ s₁ mg mb fa o pm cd doc a vs ns G Y ho hd hcd hmg hobj hints hlen hg=>?_
 have KX:=hY w _ Y;obtain⟨fd,hb,hF⟩:=F w mg fa _ KX G.T.g hmg
 exact U0 KX G.T.g G.T.b G.T.builtins G.T.nolimit hg hobj hints (zG hlen hn2) hr hF hb (λH hO hS=>hsp w H a ns hlen hO hS) λH e s'=>hCX w H s₁ e s'
theorem j5{K:Frag}{mg:Str->Option Value}{f:Str}:∀c∈([]:List Str),KC K mg c f:=λ_ h=>nomatch h
theorem j6{K:Frag}{mg:Str->Option Value}{f c:Str}{cs:List Str}(h:KC K mg c f)(hr:∀c∈cs,KC K mg c f):∀c'∈c::cs,KC K mg c' f:=λc' hc=>by
 rcases zm.mp hc with rfl | hc
 ·exact h
 ·exact hr c' hc
def sp_law(K:Frag):Sp:=λvs H Q _=>∃(a:Addr) (ns:List Int),vs=[.ref a]/\RdK K H a (ns.map V.int)/\ns.length<=63/\lX H/\∀H',Q (.bl true) H'
theorem Rps.ofInts{K:Frag}{F:Hp}{as:List Addr}:∀ns:List Int,Rps K F as (ns.map V.int) (ns.map D.int)
 | []=>Rps.nil
 |n::ns=>Rps.cons Rp.int (Rps.ofInts ns)
theorem U3{K:Frag}{mg:Str->Option Value}{c:List D->ao->Res D}(h:∀ns:List Int,ns.length<=63->∃O',c [.lst (ns.map D.int)] []=.ok (.bl true) O'):∀vs H Q E,sp_law K vs H Q E->vSp K mg [.s] (rV K) c vs H Q E:=by
 rintro vs H Q E ⟨a,ns,rfl,hS,hl,hO,q⟩;obtain⟨O',e⟩:=h ns hl
 have r:RlO K mg [] H H []:=⟨Same.refl H,λb o e=>by
  rcases hO b with z | ⟨o',xs,z⟩
  ·rw[e] at z;cases z
  ·rw[e] at z;cases z;rfl,List.nodup_nil,rfl,(λ_ z=>nomatch z),λn b o z=>by cases z⟩
 refine⟨[.lst (ns.map D.int)],[],H,[],.bl true,O',r,⟨.inl (Rp.mkL hS (Rps.ofInts ns)),trivial⟩,e,λv H' F' as' g r' hv=>?_⟩;rw[Rp.unB hv];exact q H'
def keyOf:D->Option Key
 | .int i=>some (.inl i)
 | .str l=>some (.inr (S l))
 | _=>none
section
variable {X:Cx}{md:List Md}{P:Pt}
def Prs(K:Frag)(F:Hp)(as:List Addr):List (V×V)->List (D×D)->Prop
 | [],[]=>True
 |p::ps,d::ds=>Rp K F as p.1 d.1/\Rp K F as p.2 d.2/\Prs K F as ps ds
 | _,_=>False
def DPE(X:Cx)(md:List Md)(P:Pt)(pos:Pos)(keys:List (Option Expr))(values:List Expr)(m:M (List (D×D))):Prop:=∃trs:List (TE×TE),
 PPs X pos keys values trs/\∀σ H Q,(∃ρ O F as kv O',RlO X.K X.mg O H F as/\SlO X.K md P ρ σ H F as/\m ρ O=.ok kv O'/\∀ps H' F' as',Gr H F as H' F' as'->RlO X.K X.mg O' H' F' as'->Prs X.K F' as' ps kv->Q ps H')->xu trs σ H Q
def U4:M (List (D×D)):=λ_ O=>.ok [] O
def U5(mk mv:M D)(r:M (List (D×D))):M (List (D×D)):=λρ O=>(mk ρ O).bind λa O1=>(mv ρ O1).bind λb O2=>(r ρ O2).bind λps O3=>.ok ((a,b)::ps) O3
def keysOf:List (D×D)->Option (List Key)
 | []=>some []
 | (a,_)::r=>(keyOf a).bind λk=>(keysOf r).map (k :: ·)
def U6(m:M (List (D×D))):M D:=λρ O=>(m ρ O).bind λkv O1=>match keysOf kv with
 |some ks=>if ks.Nodup/\kv.length<=15 then .ok (.dic (kv.map (·.1)) (kv.map (·.2))) O1 else .no
 |none=>.no
end
section
variable {X:Cx}{md:List Md}{P:Pt}{k:Nat}{c x m:Str}{ps:List Str}{p pos apos:Pos}{o e:Expr}{es:List Expr}{pm:List Md}{cf:List D->ao->Res D}{mo:M D}{ma:M (List D)}
theorem cV(C:Can X.prog X.w X.K X.mg X.base x ps k (vSp X.K X.mg pm (rV X.K) cf))(hr:bG k X.A)(ha:AE X md P pm (e::es) ma)(hg:Gl X x:=by rfl)(hdb:(x == ("__debug__":Str))=false:=by decide)(he:starEach (e::es) X.env=(false,eval e X.env)::starEach es X.env:=by exact cD rfl)(hpl:(backTo pos (starEach es X.env)).any (·.1)=false:=by exact eO rfl):
  VE X md P (.Call (.Name x p) (e::es) [] pos) (aJ cf ma):=GQ c7 C hr ha hg hdb he hpl
theorem fc(C:Can X.prog X.w X.K X.mg X.base x ps k (vSp X.K X.mg pm (rO X.K) cf))(hr:bG k X.A)(ha:AE X md P pm (e::es) ma)(hg:Gl X x:=by rfl)(hdb:(x == ("__debug__":Str))=false:=by decide)(he:starEach (e::es) X.env=(false,eval e X.env)::starEach es X.env:=by exact cD rfl)(hpl:(backTo pos (starEach es X.env)).any (·.1)=false:=by exact eO rfl):
  OE X md P (.Call (.Name x p) (e::es) [] pos) (aJ cf ma):=GQ dG C hr ha hg hdb he hpl
theorem Hl{pl:Sem Bool}(M:iR X.prog X.w X.K X.mg X.base c m ps k (vSp X.K X.mg (.v::pm) (rV X.K) cf))(hr:bG k X.A)(ho:VE X md P o mo)(ha:AE X md P pm (e::es) ma)(hst:starEach (e::es) X.env=(false,eval e X.env)::starEach es X.env:=by exact cD rfl)(hpl:(backTo pos (starEach es X.env)).any (·.1)=false:=by exact eO rfl)
  (ht:eval (.Call (.Attribute o m apos) (e::es) [] pos) X.env=(do
   let ov <-eval o X.env
   standAt apos.atName
   let (f,first) <-holding [ov] (getMethod ov m pl)
   callWith pos f first (backTo pos (starEach (e::es) X.env)) (backToKw pos (keywordEach [] X.env))):=by rfl):VE X md P (.Call (.Attribute o m apos) (e::es) [] pos) (cR c m cf mo ma):=Hj c7 M hr ho ha hst hpl ht
theorem yo{pl:Sem Bool}(M:iR X.prog X.w X.K X.mg X.base c m ps k (vSp X.K X.mg (.v::pm) (rO X.K) cf))(hr:bG k X.A)(ho:VE X md P o mo)(ha:AE X md P pm (e::es) ma)(hst:starEach (e::es) X.env=(false,eval e X.env)::starEach es X.env:=by exact cD rfl)(hpl:(backTo pos (starEach es X.env)).any (·.1)=false:=by exact eO rfl)
  (ht:eval (.Call (.Attribute o m apos) (e::es) [] pos) X.env=(do
   let ov <-eval o X.env
   standAt apos.atName
   let (f,first) <-holding [ov] (getMethod ov m pl)
   callWith pos f first (backTo pos (starEach (e::es) X.env)) (backToKw pos (keywordEach [] X.env))):=by rfl):OE X md P (.Call (.Attribute o m apos) (e::es) [] pos) (cR c m cf mo ma):=Hj dG M hr ho ha hst hpl ht
theorem Hm{pl:Sem Bool}(M:iR X.prog X.w X.K X.mg X.base c m ps k (vSp X.K X.mg [.v] (rV X.K) cf))(hr:bG k X.A)(ho:VE X md P o mo)
  (ht:eval (.Call (.Attribute o m apos) [] [] pos) X.env=(do
   let ov <-eval o X.env
   standAt apos.atName
   let (f,first) <-holding [ov] (getMethod ov m pl)
   callWith pos f first (backTo pos (starEach [] X.env)) (backToKw pos (keywordEach [] X.env))):=by rfl):VE X md P (.Call (.Attribute o m apos) [] [] pos) (cR c m cf mo au):=UJ c7 M hr ho ht
end
def Itz(K:Frag)(l1 l2:Addr):It:=⟨λi H=>∃xs ys x y,SqL K H l1 xs/\SqL K H l2 ys/\xs[i]?=some x/\ys[i]?=some y,
 λi H v H'=>∃T x y,v=.ref T/\H T=none/\H'=upd H T (.tup [x,y])/\(∀xs,SqL K H l1 xs->xs[i]?=some x)/\∀ys,SqL K H l2 ys->ys[i]?=some y,
 λi H=>∃xs ys,SqL K H l1 xs/\SqL K H l2 ys/\(xs.length<=i\/ys.length<=i)⟩
theorem U7{P:Program}{w:World}{K:Frag}{elts:List Expr}{x1}{pos:Pos}(z TI TO i1 i2 l1 l2:Addr)(D:ZipApart z TI TO i1 i2 l1 l2):Turn P w K (.Tuple elts x1 pos) (Itz K l1 l2) [z,TI,TO,i1,i2] z
  (λi h=>IsZip h z TI TO .none/\IsPair h TI (.ref i1) (.ref i2)/\(∃a b,IsPair h TO a b)/\h.IsListIter i1 l1 i/\h.IsListIter i2 l2 i) where
 mem:=by simp
 obj:=λi h st b hb=>by
  obtain⟨hz,hTI,⟨a,b',hTO⟩,⟨o1,ho1,hc1,hd1⟩,⟨o2,ho2,hc2,hd2⟩⟩:=st;simp only[zm,List.not_mem_nil,or_false] at hb
  rcases hb with rfl | rfl | rfl | rfl | rfl
  ·exact mj hz rfl
  ·exact⟨_,hTI,λv z=>nomatch z⟩
  ·exact⟨_,hTO,λv z=>nomatch z⟩
  ·exact mj ho1 hd1
  ·exact mj ho2 hd2
 keep:=λi h h' st k=>by
  obtain⟨hz,hTI,⟨a,b',hTO⟩,h1,h2⟩:=st;exact⟨k z (by simp) _ hz,k TI (by simp) _ hTI,⟨a,b',k TO (by simp) _ hTO⟩,h1.at λo e=>k i1 (by simp) o e,h2.at λo e=>k i2 (by simp) o e⟩
 item:=by
  intro X hP hw hK hc i pins s σ H E I hf st hg;subst hP hw hK;obtain⟨hz,hTI,⟨a,b',hTO⟩,h1,h2⟩:=st;obtain⟨xs,ys,x,y,hq1,hq2,hx,hy⟩:=hg;obtain⟨its1,rv1,pl1,hz1⟩:=I.list hq1;obtain⟨its2,rv2,pl2,hz2⟩:=I.list hq2;obtain⟨u1,hu1,ru1⟩:=rv1.get hx;obtain⟨u2,hu2,ru2⟩:=rv2.get hy;have hT:H s.heap.objs.size=none:=I.hok.fresh (zb _);have elt:z<s.heap.objs.size:=zf hz
  refine wpAny_pyNext_zip_item D hz hTI hTO h1 h2 pl1.isList pl2.isList (x:=u1) (y:=u2) (by simpa using hu1) (by simpa using hu2) λh' a1 a2 a3 a4 a5 a6 hk=>⟨_,rfl,?_⟩
  refine wpAny_letOwnedTupleGo_zip a1 λh'' hz'' hs''=>⟨.ref s.heap.objs.size,_,?_,rfl,⟨s.heap.objs.size,x,y,rfl,hT,rfl,λys' hy'=>by rw[I.list_inj hy' hq1];exact hx,λys' hy'=>by rw[I.list_inj hy' hq2];exact hy⟩,⟨hz'',hs''.extBut _ _ D.TIz (hk _ _ D.TIz D.TITO D.TIi1 D.TIi2 hTI),⟨_,_,hs''.extBut _ _ D.TOz a2⟩,a3.extBut hs''.extBut D.i1z,a4.extBut hs''.extBut D.i2z⟩,λb hb=>?_⟩
  ·show Inv X pins σ _ {s with heap:=h'',toks:=s.toks};refine I.turnT (ch:=[z,TI,TO,i1,i2]) (us:=[u1,u2]) hf (λb o hb q=>?_) (zb _) ⟨_,hs''.extBut _ _ (Nat.ne_of_gt elt) a5,rfl,_,rfl⟩ (.cons ru1 (.cons ru2 .nil)) (by show 2<=sizeLine;decide)
   have n1:b≠z:=λe=>hb (by simp[e])
   have n2:b≠TO:=λe=>hb (by simp[e])
   have n3:b≠i1:=λe=>hb (by simp[e])
   have n4:b≠i2:=λe=>hb (by simp[e])
   exact hs''.extBut _ _ n1 (hk b o n1 n2 n3 n4 q)
  ·have q:=hf b hb;rw[aK (λe=>?_)]
   ·exact q.1
   ·obtain⟨o,ho⟩:∃o,s.heap.get? b=some o:=by
     obtain⟨o1,ho1,_⟩:=h1;obtain⟨o2,ho2,_⟩:=h2;simp only[zm,List.not_mem_nil,or_false] at hb
     rcases hb with rfl | rfl | rfl | rfl | rfl
     ·exact⟨_,hz⟩
     ·exact⟨_,hTI⟩
     ·exact⟨_,hTO⟩
     ·exact⟨_,ho1⟩
     ·exact⟨_,ho2⟩
    exact absurd (zf ho) (by rw[e];exact zL _)
 done:=by
  intro X hP hw hK hc i pins s σ H E I hf st hg;subst hP hw hK;obtain⟨hz,hTI,⟨a,b',hTO⟩,h1,h2⟩:=st;obtain⟨xs,ys,hq1,hq2,hl⟩:=hg;obtain⟨its1,rv1,pl1,hz1⟩:=I.list hq1;obtain⟨its2,rv2,pl2,hz2⟩:=I.list hq2;have l1:=rv1.length;have l2:=rv2.length
  refine wpAny_pyNext_zip_end (I.ok.hd hc) D hz hTI hTO h1 h2 pl1.isList pl2.isList (by
   rcases hl with hl | hl
   ·left;simp;omega
   ·right;simp;omega) λh' hx=>⟨rfl,?_⟩
  exact I.turnL (t':=s.toks) (ch:=[z,TI,TO,i1,i2]) hf λb o hb q=>hx b o (λe=>hb (by simp[e])) (λe=>hb (by simp[e])) (λe=>hb (by simp[e])) (λe=>hb (by simp[e])) q
 self:=λA i s Q E st h=>wpAny_pyIter_zip st.1 h
section
variable {X:Cx}{md:List Md}{P:Pt}{R:RR}{elts:List Expr}{x1:Nat}{tpos:Pos}
def U8(K:Frag)(ta:TA):TI:=λσ H R=>ta σ H λvs H1=>∃a b,vs=[.ref a,.ref b]/\(∃xs,SqL K H1 a xs)/\(∃ys,SqL K H1 b ys)/\R (Itz K a b) H1
theorem U9{a b:Expr}{ta:TA}{p pos:Pos}(hg:Gl X "zip")(hm:X.mg "zip" = none)(ha:PA X [a,b] ta)(hs:starEach [a,b] X.env=(false,eval a X.env)::starEach [b] X.env:=by exact cD rfl)(hpl:(backTo pos (starEach [b] X.env)).any (·.1)=false:=by exact eO rfl):
  PI X (.Tuple elts x1 tpos) (.Call (.Name "zip" p) [a,b] [] pos) (U8 X.K ta):=by
 intro pins s σ H R I h;refine Call_ (gW I hg hm boot_zip (PyProof.Rows.callWith_type1 (thn (ha pos pins s σ H _ I h) λus s1 ⟨vs,H1,I1,r1,q1⟩=>?_) hs hpl));obtain⟨l1,l2,e,⟨xs,hq1⟩,⟨ys,hq2⟩,q⟩:=q1;subst e;obtain⟨u1,u2,rfl,ru1,ru2⟩:=vals2 r1;cases ru1;cases ru2;obtain⟨its1,rv1,pl1,hz1⟩:=I1.list hq1;obtain⟨its2,rv2,pl2,hz2⟩:=I1.list hq2
 have a1:l1<s1.heap.objs.size:=by obtain⟨_,e,_⟩:=pl1.isList;exact zf e
 have a2:l2<s1.heap.objs.size:=by obtain⟨_,e,_⟩:=pl2.isList;exact zf e
 refine call_zip_2 pl1.isList pl2.isList λh' hz hTI hTO hit1 hit2 hsz hk=>wpAny_pyIter_zip hz ?_
 refine⟨s1.heap.objs.size+4,[s1.heap.objs.size+4,s1.heap.objs.size+2,s1.heap.objs.size+3,s1.heap.objs.size,s1.heap.objs.size+1],_,_,H1,rfl,I1.kept (t':=s1.toks) hk,U7 _ _ _ _ _ l1 l2 (zipApart_new a1 a2),⟨hz,hTI,⟨_,_,hTO⟩,hit1,hit2⟩,λb hb=>?_,q⟩
 have hb':s1.heap.objs.size<=b:=by
  simp only[zm,List.not_mem_nil,or_false] at hb
  rcases hb with rfl | rfl | rfl | rfl | rfl
  ·exact zX _ _
  ·exact zX _ _
  ·exact zX _ _
  ·exact zb _
  ·exact zX _ _
 exact I1.fpOk hb' (I1.hok.fresh hb')
def di:List D->List D->List D
 |d::ds,e::es=>.tup [d,e]::di ds es
 | _,_=>[]
theorem Hn:∀(ds es:List D) (i:Nat) (x:D),(di ds es)[i]?=some x->∃d e,ds[i]?=some d/\es[i]?=some e/\x=.tup [d,e]
 | [],es,i,x,h=>by simp[di] at h
 |d::ds,[],i,x,h=>by simp[di] at h
 |d::ds,e::es,0,x,h=>by
  simp[di] at h
  exact⟨d,e,rfl,rfl,h.symm⟩
 |d::ds,e::es,i+1,x,h=>by
  obtain⟨d',e',h1,h2,h3⟩:=Hn ds es i x (by simpa [di] using h);exact⟨d',e',by simpa using h1,by simpa using h2,h3⟩
theorem Ho:∀(ds es:List D),ds.length<=(di ds es).length\/es.length<=(di ds es).length
 | [],es=>.inl (Nat.zero_le _)
 |d::ds,[]=>.inr (Nat.zero_le _)
 |d::ds,e::es=>by
  rcases Ho ds es with h | h
  ·left;simp[di];exact h
  ·right;simp[di];exact h
def qz(ma mb:M D):M (List D):=λρ O=>(ma ρ O).bind λd O1=>(mb ρ O1).bind λe O2=>match d,e with
 | .lst ds,.lst es=>.ok (di ds es) O2
 | _,_=>.no
theorem Va{a b:Expr}{p pos:Pos}{ma mb:M D}(hm:X.mg "zip" = none)(h:WE X md P a ma)(h':WE X md P b mb)(hg:Gl X "zip":=by rfl)(hs:starEach [a,b] X.env=(false,eval a X.env)::starEach [b] X.env:=by exact cD rfl)(hs':starEach [b] X.env=(false,eval b X.env)::starEach [] X.env:=by exact cD rfl)(hpl:(backTo pos (starEach [b] X.env)).any (·.1)=false:=by exact eO rfl):
  VI X md P (.Tuple elts x1 tpos) (.Call (.Name "zip" p) [a,b] [] pos) (qz ma mb):=(U9 hg hm (gZ h (gZ h' jw hs') hs) hs hpl).imp λσ H Q q=>by
 obtain⟨ρ,O,F,as,ds,O',r,s,e,k⟩:=q;obtain⟨d1,O1,e1,e⟩:=Res.bind_ok e;obtain⟨d2,O2,e2,e⟩:=Res.bind_ok e
 cases d1 with
 |lst ds1 =>
  cases d2 with
  |lst ds2 =>
   cases e;refine⟨ρ,_,F,as,_,_,r,s,e1,λv H1 F1 as1 g1 r1 hv=>?_⟩;refine⟨ρ,_,F1,as1,_,_,r1,s.step g1,e2,λu H2 F2 as2 g2 r2 hu=>?_⟩;obtain⟨a,xs,rfl,h1,h2⟩:=qw (mg:=X.mg) hv;obtain⟨b,ys,rfl,h3,h4⟩:=qw (mg:=X.mg) hu
   have h2':∀(H3 F3:Hp) (as3:List Addr),GrS P H2 F2 as2 H3 F3 as3->(∃O,RlO X.K X.mg O H3 F3 as3)->RdK X.K H3 a xs:=λH3 F3 as3 g r=>h2 H3 F3 as3 (g2.toS.trans g) r
   have h1':=h1.gr g2;refine⟨a,b,rfl,⟨xs,(h2' H2 F2 as2 GrS.refl ⟨_,r2⟩).sq⟩,⟨ys,(h4 H2 F2 as2 GrS.refl ⟨_,r2⟩).sq⟩,k _ H2 F2 as2 (g1.trans g2) r2 ⟨λi d H3 F3 as3 g r e=>?_,λH3 F3 as3 g r=>⟨xs,ys,(h2' H3 F3 as3 g r).sq,(h4 H3 F3 as3 g r).sq,?_⟩⟩⟩
   ·obtain⟨x',y',q1,q2,rfl⟩:=Hn _ _ _ _ e;obtain⟨x,hx,rx⟩:=h1'.get' q1;obtain⟨y,hy,ry⟩:=h3.get' q2;have sx:=(h2' H3 F3 as3 g r).sq;have sy:=(h4 H3 F3 as3 g r).sq;refine⟨⟨xs,ys,x,y,sx,sy,hx,hy⟩,λz H4 hz=>?_⟩;obtain⟨T,x2,y2,rfl,hT,rfl,hx2,hy2⟩:=hz;have t1:=hx2 xs sx;have t2:=hy2 ys sy;rw[hx] at t1;rw[hy] at t2;cases t1;cases t2;exact n6 r hT (Rps.cons (rx.grS g) (Rps.cons (ry.grS g) Rps.nil))
   ·rw[h1'.length,h3.length];exact Ho ds1 ds2
  | _=>cases e
 | _=>cases e
def qC(m:MS):MS:=λρ O=>match m ρ O with
 | .rt d O'=>.rt d O'
 | _=>.no
theorem SlO.toV{K:Frag}{ρ:az}{σ:St}{H F F':Hp}{as:List Addr}{i:Nat}(s:SlO K md P ρ σ H F as)(hm:md[i]?=some .o)(ff:Same F F')
  (hown:∀(j:Nat) (ds:List D) (a:Addr),j≠i->md[j]?=some .o->ρ[j]?=some (some (.lst ds))->σ[j]?=some (some (.ref a))->F' a=F a)
  (hv:∀d,ρ[i]?=some (some d)->∃v,σ[i]?=some (some v)/\Rp K F' as v d):SlO K (md.set i .v) P ρ σ H F' as:=by
 have hi:i<md.length:=(zh.mp hm).1
 have back:∀(j:Nat),(md.set i Md.v)[j]?=some Md.o->j≠i/\md[j]?=some .o:=λj e=>by
  by_cases hj:j=i
  ·subst hj;rw[zO hi] at e;cases e
  ·rw[zt (Ne.symm hj)] at e;exact⟨hj,e⟩
 refine⟨by rw[zU];exact s.len,by rw[zU];exact s.len',s.pd,λj m d e1 e2=>?_,λj k a ds es h1 h2 h3 h4 h5 h6=>s.inj j k a ds es (back j h1).2 (back k h2).2 h3 h4 h5 h6,λx hx=>?_⟩
 ·by_cases hj:j=i
  ·subst hj;rw[zO hi] at e1;cases e1;exact hv d e2
  ·rw[zt (Ne.symm hj)] at e1;obtain⟨v,q,t⟩:=s.sl j m d e1 e2;refine⟨v,q,?_⟩
   cases m with
   |v=>exact Rp.mono ff (λ_ _ z=>z) _ t
   |s =>
    rcases t with t | ⟨a,xs,ds,t1,t2,t3,t4,t5,t6⟩
    ·exact .inl (Rp.mono ff (λ_ _ z=>z) _ t)
    ·exact .inr ⟨a,xs,ds,t1,t2,t3,t4,t5,Rps.mono ff (λ_ _ z=>z) _ t6⟩
   |o =>
    rcases t with⟨t0,t⟩ | ⟨a,xs,ds,rfl,rfl,t3,t0,t4,t5,t6⟩
    ·exact .inl ⟨t0,Rp.mono ff (λ_ _ z=>z) _ t⟩
    ·exact .inr ⟨a,xs,ds,rfl,rfl,t3,by rw[hown j ds a hj e1 e2 q];exact t0,t4,t5,Rps.mono ff (λ_ _ z=>z) _ t6⟩
 ·obtain⟨p1,p2,p3⟩:=s.pin x hx
  have hne:i≠x.1:=λz=>by rw[<-z,hm] at p1;cases p1
  exact⟨by rw[zt hne];exact p1,p2,p3⟩
theorem Vb{K:Frag}{mg:Str->Option Value}{i:Nat}{m:MS}(hm:md[i]?=some .o){D:Ends}{σ:St}{H:Hp}(q:tMS K mg md P R (qC m) D σ H):tMS K mg (md.set i .v) P R m D σ H:=by
 obtain⟨ρ,O,F,as,r,s,k⟩:=q;unfold qC at k
 cases e:m ρ O with
 |rt d O' =>
  rw[e] at k
  by_cases hl:∃ds,ρ[i]?=some (some (.lst ds))
  ·obtain⟨ds,hρ⟩:=hl;obtain⟨a,xs,h1,h2,h3,h4,h5,h6⟩:=s.own hm hρ
   have ff:Same F (upd F a (.lst xs)):=λb u q=>by rw[aK (bT q h3)];exact q
   have g0:GrS P H F as H (upd F a (.lst xs)) as:=⟨λc _ p _ _ _=>aK (λz=>h5 (by rw[<-z];exact p)),ff,⟨[],by simp,λ_ h=>nomatch h⟩,λ_ _ _ h _ _=>h,λ_ h=>h,λ_ _ _ h=>h⟩;refine⟨ρ,O,upd F a (.lst xs),as,r.frz h2 h3 h4 rfl,s.toV hm ff (λj es b hj m1 m2 m3=>?_) (λd' hd'=>?_),?_⟩
   ·refine aK λz=>hj ?_
    rw[z] at m3;exact s.inj j i a es ds m1 hm m2 hρ m3 h1
   ·rw[hρ] at hd';cases hd';exact⟨_,h1,Rp.mkL (.inl (.inl bJ)) (Rps.mono ff (λ_ _ z=>z) _ h6)⟩
   ·rw[e]
    exact λv H' F' as' g r' hv=>k v H' F' as' (g0.trans g) r' hv
  ·refine⟨ρ,O,F,as,r,s.toV hm (Same.refl F) (λ_ _ _ _ _ _ _=>rfl) (λd' hd'=>?_),by rw[e];exact k⟩;obtain⟨v,h1,h2⟩:=s.sl i .o d' hm hd'
   rcases h2 with⟨_,h2⟩ | ⟨a,xs,ds,_,rfl,_⟩
   ·exact⟨v,h1,h2⟩
   ·exact absurd ⟨ds,hd'⟩ hl
 | _=>rw[e] at k;exact False.elim k
theorem Vc(i:Nat){st:Stmt}{m:MS}(hm:md[i]?=some .o)(h:VS X (md.set i .v) P R st m):VS X md P R st (qC m):=h.imp λ_ _ _=>Vb hm
theorem Vd{st:List Stmt}:VSs X md P R st xH:=λpins s σ H D I q=>by
 obtain⟨ρ,O,F,as,r,s,k⟩:=q;exact False.elim k
end
section
variable {prog:Program}{w:World}{A:Around}{E:Value->Shared->Prop}
end
section
variable {X:Cx}{md:List Md}{P:Pt}{R:RR}
def mMl(m:M D):M D:=λρ O=>(m ρ O).bind λd O1=>match d with
 | .lst ds=>.ok (.ob O1.length) (O1++[.ml ds])
 |d=>.ok d O1
theorem yp{as:List Addr}{a:Addr}:∀(n:Nat) (c:Addr),as[n]?=some c->(as++[a])[n]?=some c:=λn c h=>by
 rw[zv (zh.mp h).1];exact h
theorem RlO.snocMl{K:Frag}{mg:Str->Option Value}{O:ao}{H F:Hp}{as:List Addr}{a:Addr}{xs:List V}{ds:List D}(r:RlO K mg O H F as)(hH:H a=some (.lst xs))(hF:F a=none)(ha:a∉as)(hx:Rps K F as xs ds):RlO K mg (O++[.ml ds]) H F (as++[a]):=by
 refine⟨r.fh,r.fd,zZ.mpr ⟨r.nd,by simp,λc hc d hd=>by rw[zp.mp hd];exact λz=>ha (z ▸ hc)⟩,by rw[ze,ze,r.len];rfl,λc hc=>?_,λn c o hc ho=>?_⟩
 ·rcases zF.mp hc with hc | hc
  ·exact r.fa c hc
  ·rw[zp.mp hc];exact hF
 ·by_cases hn:n<as.length
  ·rw[zv hn] at hc;rw[zv (by rw[<-r.len];exact hn)] at ho;exact(r.ob n c o hc ho).keep rfl (Same.refl F) yp
  ·have hn':n=as.length:=by
    have:=(zh.mp hc).1
    rw[ze,zY] at this;omega
   subst hn';rw[zI (zb _),Nat.sub_self] at hc;rw[r.len,zI (zb _),Nat.sub_self] at ho;cases hc;cases ho;exact⟨xs,hH,Rps.mono (Same.refl F) yp _ hx⟩
theorem oA{e:Expr}{m:M D}(h:OE X md P e m):VE X md P e (mMl m):=h.imp λσ H Q q=>by
 obtain⟨ρ,O,F,as,d,O',r,s,e,k⟩:=q;obtain⟨x,O1,e1,e⟩:=Res.bind_ok e;refine⟨ρ,_,F,as,_,_,r,s,e1,λv H1 F1 as1 g1 r1 hv=>?_⟩
 rcases hv with⟨hn,hv⟩ | ⟨a,xs,ds,rfl,rfl,e3,e4,e5,e6,e7⟩
 ·cases x with
  |lst ds=>cases hn
  | _=>cases e;exact k v H1 F1 as1 g1 r1 hv
 ·cases e;obtain⟨new,en,hnw⟩:=g1.nw;refine k (.ref a) H1 F1 (as1++[a]) ⟨g1.fz,g1.ff,⟨new++[a],by rw[en,zJ],λc hc=>?_⟩,g1.fr,g1.dm,g1.kz⟩ (r1.snocMl e3 e4 e5 e7) (Rp.mkO ?_)
  ·rcases zF.mp hc with hc | hc
   ·exact hnw c hc
   ·rw[zp.mp hc];exact e6
  ·rw[<-r1.len,zI (zb _),Nat.sub_self];rfl
theorem uh{H F:Hp}{as:List Addr}{a:Addr}{h:HO}(ha:a∈as)(hh:H a=some h){o:HO}(hf:∀o u,h≠.frz o u:=by intro _ _ z;cases z):Gr H F as (upd H a o) F as :=
 ⟨λ_ _ _ _ _=>rfl,Same.refl F,⟨[],by simp,λ_ h=>nomatch h⟩,λc u e hn _=>by rw[aK (λz=>hn (by rw[z];exact ha))];exact e,λc e=>by
  by_cases h:c=a
  ·subst h;rw[bJ] at e;cases e
  ·rwa [aK h] at e,λc o' u e=>by rw[aK (λz=>by rw[z,hh] at e;cases e;exact hf _ _ rfl)];exact e⟩
theorem RlO.mutO{K:Frag}{mg:Str->Option Value}{O:ao}{H F:Hp}{as:List Addr}{n:Nat}{a:Addr}{xs:List V}{ds:List D}(r:RlO K mg O H F as)(hn:as[n]?=some a)(hx:Rps K F as xs ds):RlO K mg (O.set n (.ml ds)) (upd H a (.lst xs)) F as:=by
 have ha:=zy hn;refine⟨λc u e=>?_,r.fd,r.nd,by rw[zU];exact r.len,r.fa,λm c o hc ho=>?_⟩
 ·rw[aK (λz=>by rw[z,r.fa a ha] at e;cases e)];exact r.fh c u e
 ·by_cases hm:m=n
  ·subst hm;rw[hn] at hc;cases hc
   have hlt:m<O.length:=by rw[<-r.len];exact(zh.mp hn).1
   rw[zO hlt] at ho;cases ho;exact⟨xs,bJ,hx⟩
  ·rw[zt (Ne.symm hm)] at ho
   refine(r.ob m c o hc ho).keep (aK λz=>hm ?_) (Same.refl F) λ_ _ h=>h
   obtain⟨q0,q1⟩:=zh.mp hc;obtain⟨p0,p1⟩:=zh.mp hn;exact(List.getElem_inj r.nd).mp (q1.trans (z.trans p1.symm))
theorem RlO.ml{K:Frag}{mg:Str->Option Value}{O:ao}{H F:Hp}{as:List Addr}{n:Nat}{a:Addr}{ds:List D}(r:RlO K mg O H F as)(hn:as[n]?=some a)(hO:O[n]?=some (.ml ds)):∃xs,H a=some (.lst xs)/\Rps K F as xs ds:=r.ob n a _ hn hO
end
def um(K:Frag)(mg:Str->Option Value)(x:Str)(ls:List (List Nat)):Prop:=∃(a:Addr) (o:Obj) (its:Array Value) (n:Nat),mg x=some (.ref a)/\K.lookup a=some o/\o.cls=.type "tuple"/\o.data=.seq its n/\its.size<=sizeLine/\aR (ls.map λl=>V.str (S l)) its.toList
theorem Rps.texts{K:Frag}{F:Hp}{as:List Addr}:∀ls:List (List Nat),Rps K F as (ls.map λl=>V.str (S l)) (ls.map D.str)
 | []=>Rps.nil
 |l::ls=>Rps.cons Rp.str (Rps.texts ls)
theorem Hq{X:Cx}{md:List Md}{P:Pt}{x:Str}{ls:List (List Nat)}{pos:Pos}(h:um X.K X.mg x ls)(hg:Gl X x:=by rfl)(hdb:(x == ("__debug__":Str))=false:=by decide):VE X md P (.Name x pos) (mC (.tup (ls.map D.str))):=by
 obtain⟨a,o,its,n,hm,hk,h1,h2,h3,h4⟩:=h
 refine(Gi (v:=.ref a) ⟨_,hm,rfl⟩ hg hdb).imp λσ H Q q=>?_
 obtain⟨ρ,O,F,as,d,O',r,s,e,k⟩:=q;cases e;exact k _ H F as Gr.refl r (Rp.mkT (.inr ⟨o,its,n,hk,h1,h2,h3,h4⟩) (Rps.texts ls))
theorem cC{α:Type}{p:List α->Prop}(h:p []):∀us:List α,us.length=0->p us:=λus e=>by
 cases us with
 |nil=>exact h
 |cons a as=>cases e
theorem bj{α:Type}{p:List α->Prop}{n:Nat}(h:∀a,∀us:List α,us.length=n->p (a::us)):∀us:List α,us.length=n+1->p us:=λus e=>by
 cases us with
 |nil=>cases e
 |cons a as=>exact h a as (Nat.succ.inj e)
section
variable {prog:Program}{w:World}{κ:Type}[DecidableEq κ]{knd:HeapKind prog w κ}{A:Around}{E:Value->Shared->Prop}{s:Shared}
end
section
variable {X:Cx}{pins:List (Addr×Obj)}{σ:St}{H:Hp}{s:Shared}{a b:Addr}{v:V}{r:Value}{kvs:List (List Key×V)}{k:List Key}{A:Around}{E:Value->Shared->Prop}
end
def uo:List D->Option (List Key)
 | []=>some []
 | .int i::ds=>(uo ds).map (Sum.inl i :: ·)
 | _=>none
def qD:D->Option (List Key)
 | .tup (d::ds)=>uo (d::ds)
 | _=>none
theorem Rps.keys{K:Frag}{F:Hp}{as:List Addr}:∀{ds:List D}{xs:List V}{ks:List Key},Rps K F as xs ds->uo ds=some ks->xs=ks.map kV/\∃is:List Int,ks=is.map Sum.inl
 | [],xs,ks,h,e=>by cases e;exact⟨h.un0,[],rfl⟩
 | .int i::ds,xs,ks,h,e=>by
  obtain⟨x,r,rfl,h1,h2⟩:=h.un;obtain⟨ks',e1,rfl⟩:=Option.map_eq_some_iff.mp (show(uo ds).map (Sum.inl i :: ·)=some ks from e);obtain⟨q1,is,rfl⟩:=Rps.keys h2 e1;exact⟨by rw[h1.unI,q1];rfl,i::is,rfl⟩
 | .non::ds,xs,ks,h,e=>by cases e
 | .bl _::ds,xs,ks,h,e=>by cases e
 | .str _::ds,xs,ks,h,e=>by cases e
 | .lst _::ds,xs,ks,h,e=>by cases e
 | .tup _::ds,xs,ks,h,e=>by cases e
 | .dic _ _::ds,xs,ks,h,e=>by cases e
 | .ob _::ds,xs,ks,h,e=>by cases e
def qF:List Value->Bool
 | []=>true
 | .int _ _::r=>qF r
 | _=>false
def bM:Frag->Bool
 | []=>true
 |p::r=>(match p.2.data with
  | .seq its _=>its.toList.isEmpty || !qF its.toList
  | _=>true)&&bM r
theorem Hr{a:Addr}{o:Obj}{its:Array Value}{n:Nat}:∀{K:Frag},bM K=true->List.lookup a K=some o->o.data=.seq its n->(its.toList.isEmpty || !qF its.toList)=true
 | [],_,h,_=>by cases h
 |p::r,hk,h,hd=>by
  unfold bM at hk;rw[zn] at hk;rw[List.lookup_cons] at h;split at h
  ·cases h
   have:=hk.1
   rw[hd] at this;exact this
  ·exact Hr hk.2 h hd
theorem Hs:∀{is:List Int}{us:List Value},aR ((is.map (Sum.inl (β:=Str))).map kV) us->qF us=true
 | [],us,h=>by cases h;rfl
 |i::is,us,h=>by
  cases h with
  | @cons _ u _ us' r1 r2 =>
   obtain⟨t,rfl⟩:∃t,u=.int i t:=r1;show qF us'=true;exact Hs (is:=is) r2
theorem Rp.tkey{K:Frag}{F:Hp}{as:List Addr}{v:V}{d:D}{ks:List Key}(hk:bM K=true)(h:Rp K F as v d)(e:qD d=some ks):∃b,v=.ref b/\F b=some (.tup (ks.map kV)):=by
 cases d with
 |tup ds =>
  cases ds with
  |nil=>cases e
  |cons d ds =>
   obtain⟨b,xs,rfl,h1,h2⟩:=h.unT';obtain⟨ex,is,rfl⟩:=h2.keys e
   rcases h1 with h1 | ⟨o,its,n,l1,_,l3,_,l5⟩
   ·exact⟨b,rfl,by rw[h1,ex]⟩
   ·exfalso
    have q:=Hr hk l1 l3;rw[ex] at l5;rw[Hs l5,Bool.not_true,Bool.or_false,List.isEmpty_iff] at q;rw[q,<-ex] at l5;obtain⟨x,r,rfl,_,_⟩:=h2.un;cases l5
 | _=>cases e
def gK(kvs:List (List Key×D))(k:List Key):Option D:=(kvs.find? λp=>decide (p.1=k)).map (·.2)
def mH(kvs:List (List Key×D))(k:List Key)(d:D):List (List Key×D):=
 if(kvs.any λp=>decide (p.1=k))=true then kvs.map (λp=>if p.1=k then(p.1,d) else p) else kvs++[(k,d)]
def DtR(K:Frag)(F:Hp)(as:List Addr)(xs:List (List Key×V))(kvs:List (List Key×D)):Prop:=xs.map (·.1)=kvs.map (·.1)/\Rps K F as (xs.map (·.2)) (kvs.map (·.2))
section
variable {K:Frag}{mg:Str->Option Value}{O:ao}{H F H' F':Hp}{as as':List Addr}
theorem DtR.len{xs:List (List Key×V)}{kvs:List (List Key×D)}(h:DtR K F as xs kvs):xs.length=kvs.length:=by
 have:=congrArg List.length h.1
 simpa using this
theorem DtR.un{xs:List (List Key×V)}{p:List Key×D}{kvs:List (List Key×D)}(h:DtR K F as xs (p::kvs)):∃v r,xs=(p.1,v)::r/\Rp K F as v p.2/\DtR K F as r kvs:=by
 obtain⟨h1,h2⟩:=h
 cases xs with
 |nil=>cases h1
 |cons x r =>
  obtain⟨v,r',e,q1,q2⟩:=h2.un;cases e;rw[zj,zj] at h1;have q3:=(List.cons.inj h1).1;refine⟨x.2,r,?_,q1,(List.cons.inj h1).2,q2⟩;rw[<-q3]
theorem DtR.val{k:List Key}:∀{kvs:List (List Key×D)}{xs:List (List Key×V)},DtR K F as xs kvs->(gK kvs k=none/\gq xs k=none)\/∃d v,gK kvs k=some d/\gq xs k=some v/\Rp K F as v d
 | [],xs,h=>by
  have:=h.len
  cases xs with
  |nil=>exact .inl ⟨rfl,rfl⟩
  |cons=>cases this
 |p::kvs,xs,h=>by
  obtain⟨v,r,rfl,h1,h2⟩:=h.un
  by_cases e:p.1=k
  ·exact .inr ⟨p.2,v,by simp[gK,List.find?_cons,e],tG e,h1⟩
  ·rw[show gK (p::kvs) k=gK kvs k by simp[gK,List.find?_cons,e],tH (p:=(p.1,v)) e];exact DtR.val h2
theorem DtR.any{k:List Key}:∀{kvs:List (List Key×D)}{xs:List (List Key×V)},DtR K F as xs kvs->(xs.any λp=>decide (p.1=k))=kvs.any λp=>decide (p.1=k)
 | [],xs,h=>by
  have:=h.len
  cases xs with
  |nil=>rfl
  |cons=>cases this
 |p::kvs,xs,h=>by
  obtain⟨v,r,rfl,h1,h2⟩:=h.un;rw[List.any_cons,List.any_cons,DtR.any h2]
theorem DtR.repl{k:List Key}{v:V}{d:D}(hv:Rp K F as v d):∀{kvs:List (List Key×D)}{xs:List (List Key×V)},DtR K F as xs kvs ->
  DtR K F as (xs.map λp=>if p.1=k then(p.1,v) else p) (kvs.map λp=>if p.1=k then(p.1,d) else p)
 | [],xs,h=>by
  have:=h.len
  cases xs with
  |nil=>exact⟨rfl,Rps.nil⟩
  |cons=>cases this
 |p::kvs,xs,h=>by
  obtain⟨u,r,rfl,h1,h2⟩:=h.un;obtain⟨i1,i2⟩:=DtR.repl (k:=k) hv h2
  by_cases e:p.1=k
  ·rw[zj,zj,if_pos e,if_pos e];exact⟨by rw[zj,zj,i1],Rps.cons hv i2⟩
  ·rw[zj,zj,if_neg e,if_neg e];exact⟨by rw[zj,zj,i1],Rps.cons h1 i2⟩
theorem DtR.put{xs:List (List Key×V)}{kvs:List (List Key×D)}(h:DtR K F as xs kvs)(k:List Key){v:V}{d:D}(hv:Rp K F as v d):DtR K F as (putK xs k v) (mH kvs k d):=by
 unfold putK mH;rw[h.any]
 split
 ·exact h.repl hv
 ·exact⟨by rw[zD,zD,h.1];rfl,by rw[zD,zD];exact Rps.snoc h.2 hv⟩
theorem RlO.dt{n:Nat}{a:Addr}{kvs:List (List Key×D)}(r:RlO K mg O H F as)(hn:as[n]?=some a)(hO:O[n]?=some (.dt kvs)):∃xs,H a=some (.dT xs)/\DtR K F as xs kvs:=let ⟨xs,h1,h2,h3⟩:=r.ob n a _ hn hO;⟨xs,h1,h2,h3⟩
theorem RlO.snocO{a:Addr}{o:Ob}(r:RlO K mg O H F as)(hF:F a=none)(ha:a∉as)(ho:ObR K mg H F (as++[a]) a o):RlO K mg (O++[o]) H F (as++[a]):=by
 refine⟨r.fh,r.fd,zZ.mpr ⟨r.nd,by simp,λc hc d hd=>by rw[zp.mp hd];exact λz=>ha (z ▸ hc)⟩,by rw[ze,ze,r.len];rfl,λc hc=>?_,λn c u hc hu=>?_⟩
 ·rcases zF.mp hc with hc | hc
  ·exact r.fa c hc
  ·rw[zp.mp hc];exact hF
 ·by_cases hn:n<as.length
  ·rw[zv hn] at hc;rw[zv (by rw[<-r.len];exact hn)] at hu;exact(r.ob n c u hc hu).keep rfl (Same.refl F) yp
  ·have hn':n=as.length:=by
    have:=(zh.mp hc).1
    rw[ze,zY] at this;omega
   subst hn';rw[zI (zb _),Nat.sub_self] at hc;rw[r.len,zI (zb _),Nat.sub_self] at hu;cases hc;cases hu;exact ho
theorem RlO.mutG{n:Nat}{a:Addr}{o:Ob}{h:HO}(r:RlO K mg O H F as)(hn:as[n]?=some a)(hx:ObR K mg (upd H a h) F as a o):RlO K mg (O.set n o) (upd H a h) F as:=by
 have ha:=zy hn;refine⟨λc u e=>?_,r.fd,r.nd,by rw[zU];exact r.len,r.fa,λm c u hc hu=>?_⟩
 ·rw[aK (λz=>by rw[z,r.fa a ha] at e;cases e)];exact r.fh c u e
 ·by_cases hm:m=n
  ·subst hm;rw[hn] at hc;cases hc
   have hlt:m<O.length:=by rw[<-r.len];exact(zh.mp hn).1
   rw[zO hlt] at hu;cases hu;exact hx
  ·rw[zt (Ne.symm hm)] at hu
   refine(r.ob m c u hc hu).keep (aK λz=>hm ?_) (Same.refl F) λ_ _ h=>h
   obtain⟨q0,q1⟩:=zh.mp hc;obtain⟨p0,p1⟩:=zh.mp hn;exact(List.getElem_inj r.nd).mp (q1.trans (z.trans p1.symm))
theorem RlO.unF{p:Addr}(r:RlO K mg O H F as)(hp:H p=none):F p=none:=by
 cases e:F p with
 |none=>rfl
 |some o=>rw[r.fh p o e] at hp;cases hp
theorem Gr.snoc{p:Addr}{o:HO}(hp:H p=none):Gr H F as (upd H p o) F (as++[p]):=
 ⟨λ_ _ _ _ _=>rfl,Same.refl F,⟨[p],rfl,λa h=>by rw[zp.mp h];exact hp⟩,λa u e _ _=>by rw[aK (bT e hp)];exact e,λa e=>by
  by_cases h:a=p
  ·subst h;exact hp
  ·rwa [aK h] at e,λa o' u e=>by rw[aK (bT e hp)];exact e⟩
end
section
variable {X:Cx}{md:List Md}{P:Pt}{R:RR}
def qG:M D:=λ_ O=>.ok (.ob O.length) (O++[.dt []])
theorem Ht{pos:Pos}:VE X md P (.Dict [] [] pos) qG:=RJ.imp λσ H Q q p hp=>by
 obtain⟨ρ,O,F,as,d,O',r,s,e,k⟩:=q;cases e;refine k _ _ F (as++[p]) (Gr.snoc hp) ((r.lay hp).snocO (r.unF hp) (λz=>r.all z hp) ⟨[],bJ,rfl,Rps.nil⟩) (Rp.mkO ?_);rw[<-r.len,zI (zb _),Nat.sub_self];rfl
def gM(mo my mv:M D):MS:=λρ O=>match mv ρ O with
 | .ok d O1=>match mo ρ O1 with
  | .ok (.ob n) O2=>match my ρ O2 with
   | .ok y O3=>match qD y,O3[n]? with
    |some k,some (.dt kvs)=>if kvs.length<1000000 then .nx ρ (O3.set n (.dt (mH kvs k d))) else .no
    | _,_=>.no
   | _=>.no
  | _=>.no
 | _=>.no
theorem yq{kk:Nat}(hk:bM X.K=true)(hr:bG kk X.A){o i value:Expr}{pos pos':Pos}{mo my mv:M D}(ho:VE X md P o mo)(hi:VE X md P i my)(hv:VE X md P value mv)
  (hs:swapsWith value (some (.Subscript o i pos')) pos.line X.env=pure false:=by rfl):VS X md P R (.Assign [.Subscript o i pos'] value pos) (gM mo my mv):=
 (RC (xf hr) ho hi hv hs).imp λD σ H q=>by
  obtain⟨ρ,O,F,as,r,s,k⟩:=q;unfold gM at k;split at k
  ·rename_i d O1 e1;split at k
   ·rename_i n O2 e2;split at k
    ·rename_i y O3 e3;split at k
     ·rename_i ks kvs e4 e5;split at k
      ·rename_i hz;refine⟨ρ,O,F,as,_,_,r,s,e1,λv H1 F1 as1 g1 r1 hv=>⟨ρ,O1,F1,as1,_,_,r1,s.step g1,e2,λx H2 F2 as2 g2 r2 hx=>⟨ρ,O2,F2,as2,_,_,r2,s.step (g1.trans g2),e3,λu H3 F3 as3 g3 r3 hu=>?_⟩⟩⟩;obtain⟨a,rfl,ha⟩:=Rp.unO hx;have ha3:=g3.at_ n a ha;obtain⟨xs,x1,x2⟩:=r3.dt ha3 e5;obtain⟨b,rfl,hb⟩:=Rp.tkey hk hu e4;have hv3:=(show Rp X.K F1 as1 v d from hv).gr (g2.trans g3)
       have hl:xs.length<sizeLine:=by rw[x2.len];exact zA hz (by decide)
       have g4:Gr H3 F3 as3 (upd H3 a (.dT (putK xs ks v))) F3 as3:=uh (zy ha3) x1;have gg:=((g1.trans g2).trans g3).trans g4;obtain⟨z1,z2⟩:=x2.put ks hv3;exact⟨a,_,rfl,pR.t x1 (r3.fh _ _ hb) hl,k σ _ F3 as3 gg.toS (r3.mutG ha3 ⟨_,bJ,z1,z2⟩) (s.step gg)⟩
      ·exact False.elim k
     ·exact False.elim k
    ·exact False.elim k
   ·exact False.elim k
  ·exact False.elim k
end
section
variable {X:Cx}
end
section
variable {X:Cx}{md:List Md}{P:Pt}{R:RR}
def lE(mo mi m:M D):MS:=λρ O=>match m ρ O with
 | .ok d O1=>match mo ρ O1 with
  | .ok (.ob n) O2=>match mi ρ O2 with
   | .ok (.int j) O3=>match O3[n]? with
    |some (.ml ds)=>match ixN ds.length j with
     |some q=>.nx ρ (O3.set n (.ml (ds.set q d)))
     |none=>.no
    | _=>.no
   | _=>.no
  | _=>.no
 | _=>.no
theorem Ve{pos apos:Pos}{o ix e:Expr}{mo mi m:M D}(h:VE X md P e m)(ho:VE X md P o mo)(hi:VE X md P ix mi)
  (ha:∀v,assign (.Subscript o ix apos) X.env v=(do
   let ov <-holding [v] (eval o X.env)
   let iv <-holding [v,ov] (eval ix X.env)
   standAt apos
   holding [v,ov,iv] (setItem ov iv v)
   release [v,ov,iv] []):=by intro _;rfl)
  (hs:swapsWithSole [.Subscript o ix apos] e pos.line X.env=pure false:=by rfl) (hw:swappedStores [.Subscript o ix apos] e X.env=pure none:=by rfl)
  (h1:(assignEach [.Subscript o ix apos] X.env).map (·.2)=[assign (.Subscript o ix apos) X.env]:=by rfl):
  VS X md P R (.Assign [.Subscript o ix apos] e pos) (lE mo mi m):=
 (Eh h (Eg ho hi set_list ha) hs hw h1).imp λD σ H q=>by
  obtain⟨ρ,O,F,as,r,s,k⟩:=q;unfold lE at k;split at k
  ·rename_i d O1 e1;split at k
   ·rename_i n O2 e2;split at k
    ·rename_i j O3 e3;split at k
     ·rename_i ds e4;split at k
      ·rename_i q e5;refine⟨ρ,O,F,as,d,O1,r,s,e1,λy H1 F1 as1 g1 r1 hy=>⟨ρ,O1,F1,as1,_,O2,r1,s.step g1,e2,λx H2 F2 as2 g2 r2 hx=>⟨ρ,O2,F2,as2,_,O3,r2,s.step (g1.trans g2),e3,λz H3 F3 as3 g3 r3 hz=>?_⟩⟩⟩;obtain⟨a,rfl,ha⟩:=Rp.unO hx;have ha3:=g3.at_ n a ha;obtain⟨xs,y1,y2⟩:=r3.ml ha3 e4;have hy3:=(show Rp X.K F1 as1 y d from hy).gr (g2.trans g3);have g4:Gr H3 F3 as3 (upd H3 a (.lst (xs.set q y))) F3 as3:=uh (zy ha3) y1;have gg:=((g1.trans g2).trans g3).trans g4;exact⟨a,xs,j,q,rfl,Rp.unI hz,y1,by rw[y2.length];exact e5,k σ _ F3 as3 gg.toS (r3.mutO ha3 (y2.set q hy3)) (s.step gg)⟩
      ·exact False.elim k
     ·exact False.elim k
    ·exact False.elim k
   ·exact False.elim k
  ·exact False.elim k
end
def cJ(O:ao):Nat->D->D
 | 0,d=>d
 |n+1,.ob i=>match O[i]? with
  |some (.ml ds)=>.lst (ds.map (cJ O n))
  | _=>.ob i
 |n+1,.lst ds=>.lst (ds.map (cJ O n))
 |n+1,.tup ds=>.tup (ds.map (cJ O n))
 | _+1,d=>d
section
variable {K:Frag}{mg:Str->Option Value}{O:ao}{H F:Hp}{as:List Addr}
theorem qH{n:Nat}(ih:∀(d:D) (v:V),Rp K F as v d->dw (cJ O n d)=true->Rep K H v (toP (cJ O n d))):∀(ds:List D) (xs:List V),Rps K F as xs ds->jW (ds.map (cJ O n))=true->cH K H xs (jD (ds.map (cJ O n)))
 | [],xs,h,_=>by rw[h.un0];exact cH.nil
 |d::ds,xs,h,hp=>by
  obtain⟨x,r,rfl,h1,h2⟩:=h.un;rw[zj,jW,zn] at hp;rw[zj,jD];exact cH.cons (ih d x h1 hp.1) (qH ih ds r h2 hp.2)
theorem qI(r:RlO K mg O H F as):∀(n:Nat) (d:D) (v:V),Rp K F as v d->dw (cJ O n d)=true->Rep K H v (toP (cJ O n d))
 | 0,d,v,h,hp=>Lk.rep (Or.inl h) r.fh hp
 |n+1,.ob i,v,h,hp=>by
  unfold cJ at hp ⊢;split at hp
  ·rename_i ds e;obtain⟨a,rfl,ha⟩:=h.unO;obtain⟨xs,h1,h2⟩:=r.ml ha e;rw[dw] at hp;rw[toP,Rep];exact⟨a,xs,rfl,.inl (.inl h1),qH (qI r n) ds xs h2 hp⟩
  ·cases hp
 |n+1,.lst ds,v,h,hp=>by
  unfold cJ at hp ⊢;obtain⟨a,xs,rfl,h1,h2⟩:=h.unL;rw[dw] at hp;rw[toP,Rep];exact⟨a,xs,rfl,(h1.mono r.fh).sq,qH (qI r n) ds xs h2 hp⟩
 |n+1,.tup ds,v,h,hp=>by
  unfold cJ at hp ⊢;obtain⟨a,xs,rfl,h1,h2⟩:=h.unT;rw[dw] at hp;rw[toP,Rep];exact⟨a,xs,rfl,Same.seqT r.fh h1,qH (qI r n) ds xs h2 hp⟩
 |n+1,.non,v,h,hp=>Lk.rep (Or.inl h) r.fh hp
 |n+1,.bl _,v,h,hp=>Lk.rep (Or.inl h) r.fh hp
 |n+1,.int _,v,h,hp=>Lk.rep (Or.inl h) r.fh hp
 |n+1,.str _,v,h,hp=>Lk.rep (Or.inl h) r.fh hp
 |n+1,.dic _ _,v,h,hp=>Lk.rep (Or.inl h) r.fh hp
theorem Hu(r:RlO K mg O H F as){n:Nat}{d:D}{v:V}(h:Sv K H F as v d)(hp:dw (cJ O n d)=true):Rep K H v (toP (cJ O n d)):=by
 rcases h with h | ⟨a,xs,ds,rfl,rfl,e3,e4,e5⟩
 ·exact qI r n d v h hp
 ·cases n with
  |zero=>exact Lk.rep (Or.inr ⟨a,xs,ds,rfl,rfl,e3,e5⟩) r.fh hp
  |succ n =>
   unfold cJ at hp ⊢;rw[dw] at hp;rw[toP,Rep];exact⟨a,xs,rfl,.inl (.inl e3),qH (qI r n) ds xs e5 hp⟩
end
section
variable {X:Cx}{md:List Md}{P:Pt}{R:RR}
def fj(neg:Bool)(n:Nat)(ma mb:M D):M D:=λρ O=>(ma ρ O).bind λx O1=>(mb ρ O1).bind λy O2 =>
 if(okE (cJ O2 n x)&&okE (cJ O2 n y))=true then .ok (.bl (if neg then !dz (cJ O2 n x) (cJ O2 n y) else dz (cJ O2 n x) (cJ O2 n y))) O2 else .no
theorem Hv{K:Frag}{mg:Str->Option Value}{neg:Bool}{n:Nat}{ma mb:M D}{σ:St}{H:Hp}{Q:VK}(h:tM K mg md P (rO K) (fj neg n ma mb) σ H Q):tOp (xC K neg) (tM K mg md P (rS K) ma) (tM K mg md P (rS K) mb) σ H Q:=by
 obtain⟨ρ,O,F,as,d,O',r,sl,e,k⟩:=h;obtain⟨x,O1,e1,e⟩:=Res.bind_ok e;obtain⟨y,O2,e2,e⟩:=Res.bind_ok e;split at e
 ·rename_i hk;cases e;rw[zn] at hk;obtain⟨k1,k2⟩:=hk;unfold okE at k1 k2;rw[zn] at k1 k2;refine⟨ρ,_,F,as,_,_,r,sl,e1,λv H1 F1 as1 g1 r1 hv=>?_⟩;refine⟨ρ,_,F1,as1,_,_,r1,sl.step g1,e2,λu H2 F2 as2 g2 r2 hu=>?_⟩;exact⟨_,_,Hu r2 (Sv.gr hv g2) k1.1,Hu r2 hu k2.1,k1.2,k2.2,k _ H2 F2 as2 (g1.trans g2) r2 (.inl ⟨rfl,Rp.bl⟩)⟩
 ·cases e
theorem Hw(n:Nat){k:Nat}(hr:bG k X.A){e1 e2:Expr}{pos:Pos}{ma mb:M D}(ha:SE X md P e1 ma)(hb:SE X md P e2 mb):OE X md P (.Compare e1 [.Eq] [e2] pos) (fj false n ma mb):=
 (Eu (Gg hr) ha hb (cu _)).imp λ_ _ _=>Hv
theorem Vf(n:Nat){k:Nat}(hr:bG k X.A){e1 e2:Expr}{pos:Pos}{ma mb:M D}(ha:SE X md P e1 ma)(hb:SE X md P e2 mb):TsE X md P (.Compare e1 [.NotEq] [e2] pos) (aQ (fj true n ma mb)):=
 (Ew (Gh hr) ha hb (cu _)).imp λσ H Q h=>by
  have q:=pX h;exact Hv q
end
section
variable {X:Cx}{md:List Md}{P:Pt}{R:RR}
def iT(n:Nat)(all:List D)(g:MG)(b:MS):List D->MS
 | [],ρ,O=>match O[n]? with
  |some (.ml es)=>if es.length=all.length then .nx ρ O else .no
  | _=>.no
 |d::ds,ρ,O=>match O[n]? with
  |some (.ml es)=>match es[all.length - (ds.length+1)]? with
   |some d'=>match g (.tup [.int ((all.length - (ds.length+1):Nat):Int),d']) ρ with
    |none=>.no
    |some ρ1=>match b ρ1 O with
     | .nx ρ2 O2=>iT n all g b ds ρ2 O2
     | .ct ρ2 O2=>iT n all g b ds ρ2 O2
     | .bk ρ2 O2=>.nx ρ2 O2
     |r=>r
   |none=>.no
  | _=>.no
def qJ(m:M D)(g:MG)(b:MS):MS:=λρ O=>match m ρ O with
 | .ok (.ob n) O'=>match O'[n]? with
  |some (.ml ds)=>iT n ds g b ds ρ O'
  | _=>.no
 | _=>.no
theorem Vg{K:Frag}{mg:Str->Option Value}{m:M D}{g:MG}{b:MS}{n:Nat}{ds:List D}{D:Ends}{σ:St}{H F:Hp}{as:List Addr}{ρ:az}{O O1:ao}(r:RlO K mg O H F as)(s:SlO K md P ρ σ H F as)(e:m ρ O=.ok (.ob n) O1)(e2:O1[n]?=some (.ml ds))
  (k:ig K mg md P R D H F as (iT n ds g b ds ρ O1)):wH (ud K (sY (tM K mg md P (rW K P) m) pQ)) (tMG K mg md P g) (tMS K mg md P R b) D σ H:=by
 refine⟨ρ,O,F,as,_,_,r,s,e,λv H1 F1 as1 g1 r1 hv=>?_⟩
 have hv':Rp K F1 as1 v (.ob n):=by
  rcases hv with hv | ⟨a,xs,ds',_,z,_⟩
  ·exact hv
  ·cases z
 obtain⟨a,rfl,ha⟩:=Rp.unO hv';obtain⟨xs0,x1,x2⟩:=r1.ml ha e2;have k1:=gH (R:=R) g1.toS k;refine⟨a,rfl,⟨xs0,.inl (.inl x1)⟩,λi m σ' H'=>m=ds.length - i/\i<=ds.length/\∃ρ' O' F' as',GrS P H1 F1 as1 H' F' as'/\RlO K mg O' H' F' as'/\SlO K md P ρ' σ' H' F' as'/\ig K mg md P R D H' F' as' (iT n ds g b (ds.drop i) ρ' O'),⟨ds.length,by simp,Nat.zero_le _,ρ,O1,F1,as1,GrS.refl,r1,s.step g1,by rw[List.drop_zero];exact k1⟩,?_⟩;rintro i t σ' H' ⟨rfl,hi,ρ',O',F',as',g',r',s',k'⟩;have ha':=g'.at_ n a ha
 by_cases hlt:i<ds.length
 ·rw[List.drop_eq_getElem_cons hlt] at k';unfold iT at k';split at k'
  ·rename_i es ee;obtain⟨xs,y1,y2⟩:=r'.ml ha' ee
   have hidx:ds.length - ((ds.drop (i+1)).length+1)=i:=by rw[List.length_drop];omega
   rw[hidx] at k';split at k'
   ·rename_i d' ed;obtain⟨x,hx,rx⟩:=y2.get' ed;have hsq:SqL K H' a xs:=.inl (.inl y1);refine .inr ⟨⟨xs,x,hsq,hx⟩,λσ2 H2=>∃ρ2 O2 F2 as2,GrS P H1 F1 as1 H2 F2 as2/\RlO K mg O2 H2 F2 as2/\SlO K md P ρ2 σ2 H2 F2 as2/\ig K mg md P R D H2 F2 as2 (iT n ds g b (ds.drop (i+1)) ρ2 O2),λσ2 H2 h2=>⟨ds.length - (i+1),by omega,rfl,hlt,h2⟩,λz3 H3 y=>?_⟩;obtain⟨T,x2,rfl,hT,rfl,hy⟩:=y;have hxx:=hy xs hsq;rw[hx] at hxx;cases hxx;split at k'
    ·exact False.elim k'
    ·rename_i ρ1 eg;obtain⟨F3,g3,r3,rp3⟩:=n6 ⟨_,r'⟩ hT (Rps.cons (Rp.int (i:=(i:Int))) (Rps.cons rx Rps.nil));have r3':=r3 O' r';refine⟨ρ',O',F3,as',_,ρ1,r3',s'.step g3,rp3,eg,λσ4 s4=>?_⟩;refine⟨ρ1,O',F3,as',r3',s4,?_⟩
     cases eb:b ρ1 O' with
     |nx ρ2 O2 =>
      rw[eb] at k'
      exact λσ2 H2 F2 as2 g2 r2 s2=>⟨ρ2,O2,F2,as2,g'.trans (g3.toS.trans g2),r2,s2,gH (g3.toS.trans g2) k'⟩
     |ct ρ2 O2 =>
      rw[eb] at k'
      exact λσ2 H2 F2 as2 g2 r2 s2=>⟨ρ2,O2,F2,as2,g'.trans (g3.toS.trans g2),r2,s2,gH (g3.toS.trans g2) k'⟩
     |bk ρ2 O2 =>
      rw[eb] at k'
      exact λσ2 H2 F2 as2 g2 r2 s2=>k' σ2 H2 F2 as2 (g3.toS.trans g2) r2 s2
     |rt d O2 =>
      rw[eb] at k'
      exact λv H2 F2 as2 g2 r2 s2=>k' v H2 F2 as2 (g3.toS.trans g2) r2 s2
     |ex _ _=>rw[eb] at k';exact False.elim k'
     |no=>rw[eb] at k';exact False.elim k'
   ·exact False.elim k'
  ·exact False.elim k'
 ·have hi':i=ds.length:=by omega
  subst hi';rw[List.drop_length] at k';unfold iT at k';split at k'
  ·rename_i es ee;split at k'
   ·rename_i hl;obtain⟨xs,y1,y2⟩:=r'.ml ha' ee;exact .inl ⟨⟨xs,.inl (.inl y1),by rw[y2.length,hl];exact zb _⟩,k' σ' H' F' as' GrS.refl r' s'⟩
   ·exact False.elim k'
  ·exact False.elim k'
theorem Vh{elts:List Expr}{x1:Nat}{tpos:Pos}{a:Expr}{p pos pos':Pos}{body:List Stmt}{m:M D}{g:MG}{b:MS}(hc:X.calm=true)(hm:X.mg "enumerate" = none)(hi:WE X md P a m)(hg:VG X md P (.Tuple elts x1 tpos) g)(hb:VSs X md P R body b)
  (hG:Gl X "enumerate":=by rfl) (hs1:starEach [a] X.env=[(false,eval a X.env)]:=by exact iG rfl) (hs2:starEach [a] X.env=(false,eval a X.env)::starEach [] X.env:=by exact cD rfl)
  (hp:PassesOwn (model X.prog X.w) X.A X.env X.xe:=by exact PassesOwn.never)
  (hs:∀x,foldedSetIterable (.Call (.Name "enumerate" p) [a] [] pos) X.env x=pure x:=by intro _;rfl):VS X md P R (.For (.Tuple elts x1 tpos) (.Call (.Name "enumerate" p) [a] [] pos) body [] pos') (qJ m g b):=λpins s σ H D I q=>by
 obtain⟨ρ,O,F,as,r,sl,k⟩:=q;unfold qJ at k;split at k
 ·rename_i n O1 e1;split at k
  ·rename_i ds e2;exact Em hp hc (xY hG hm (gZ hi jw hs2) hs1) hg hb hs pins s σ H D I (Vg r sl e1 e2 k)
  ·exact False.elim k
 ·exact False.elim k
end
end L2
namespace L2
open PySem PySem.Spec PyProof.Rows PySem.W PySem.Calls
section
variable {prog:Program}{w:World}{A:Around}{E:Value->Shared->Prop}{s:Shared}{a:Addr}{vs out:List Value}{p:Array Nat}
end
section
variable {X:Cx}
end
structure Hx(mg:Str->Option Value):Prop extends Blt mg where
 sorted_:mg "sorted" = none
end L2
namespace L2
open PySem PySem.Spec PyProof.Rows
abbrev iU(h:Heap)(z TI TO T:Addr)(b:Bool):Prop :=
 h.get? z=some {cls:=.type "zip",dict:=none,data:=.fields #[rawInt T,.bool b,.bool false,.ref TI,.ref TO],slots:=#[]}
section
variable {prog:Program}{w:World}{A:Around}{E:Value->Shared->Prop}{s:Shared}
theorem Vi{a:Addr}{o:Obj}{Q:Option Obj->Shared->Prop}(h:s.heap.get? a=some o)(hQ:Q (some o) s):wpAny (model prog w) A (loadIfAlive a) Q E s:=by
 have:wpAny (model prog w) A (loadIfAlive a) Q E s↔wpAny (model prog w) A (pure (s.heap.get? a)) Q E s:=by
  unfold loadIfAlive wpAny;simp[Sem.wp_loadIfAlive]
 rw[this,h];exact zc hQ
theorem Hy{z TI TO T:Addr}{b:Bool}{o:Obj}{Q:Bool->Shared->Prop}(hz:iU s.heap z TI TO T b)(hT:s.heap.get? T=some o)
  (hQ:∀h',iU h' z TI TO T true->Heap.SameBut z s.heap h'->Q false {s with heap:=h'}):wpAny (model prog w) A (Builtin.SmallTypes.ownedTupleIsFree (.ref z)) Q E s:=by
 unfold Builtin.SmallTypes.ownedTupleIsFree;refine za (wpAny_field hz rfl (x:=rawInt T) rfl ?_);show wpAny _ _ (loadIfAlive ((T:Int).toNat) >>= _) _ _ _;rw[Int.toNat_natCast];refine za (Vi hT ?_);show wpAny _ _ (field (.ref z) 1 >>= _) _ _ _;refine za (wpAny_field hz rfl (x:=.bool b) rfl ?_)
 cases b with
 |true =>
  exact zc (hQ s.heap hz (Heap.SameBut.refl _ _))
 |false =>
  exact za (wpAny_setField_rec hz (by simp) λh1 hz1 hs1=>zc (hQ h1 hz1 hs1))
theorem Vj{z TI TO T i1 i2 l1 l2:Addr}{o:Obj}{b:Bool}{k1 k2:Nat}{xs ys:Array Value}{x y:Value}{Q:Value->Shared->Prop}(D:ZipApart z TI TO i1 i2 l1 l2)
  (hz:iU s.heap z TI TO T b) (hT:s.heap.get? T=some o) (hTI:IsPair s.heap TI (.ref i1) (.ref i2))
  (h1:s.heap.IsListIter i1 l1 k1) (h2:s.heap.IsListIter i2 l2 k2) (hl1:s.heap.IsList l1 xs) (hl2:s.heap.IsList l2 ys) (hx:xs[k1]?=some x) (hy:ys[k2]?=some y)
  (hQ:∀h',iU h' z TI TO T true->h'.IsListIter i1 l1 (k1+1)->h'.IsListIter i2 l2 (k2+1)->IsPair h' s.heap.objs.size x y->h'.objs.size=s.heap.objs.size+1 ->
   (∀c o,c≠z->c≠i1->c≠i2->s.heap.get? c=some o->h'.get? c=some o)->Q (.ref s.heap.objs.size) {s with heap:=h'}):
  wpAny (model prog w) A (Builtin.«zip.__next__» ⟨[.ref z],[]⟩) (λfin s'=>∃v,fin=.done (.ret v)/\Q v s') E s:=by
 show wpAny _ _ (field (.ref z) 2 >>= _) _ _ _;refine za (wpAny_field hz rfl (x:=.bool false) rfl ?_);show wpAny _ _ (field (.ref z) 3 >>= _) _ _ _;refine za (wpAny_field hz rfl (x:=.ref TI) rfl ?_);refine za (wpAny_seqItems hTI rfl ?_);show wpAny _ _ (Builtin.SmallTypes.ownedTupleIsFree (.ref z) >>= _) _ _ _;refine za (Hy hz hT λh₁ hz₁ hs₁=>?_);simp only[Bool.false_eq_true,if_false];refine za ?_;simp only[<-Array.forIn_toList,List.forIn_cons,List.forIn_nil];refine za (za (zT ?_));show wpAny _ _ (Builtin.SmallTypes.nextOf (.ref i1) >>= _) _ _ _;refine za (wpAny_nextOf_list_item (h1.extBut hs₁.extBut D.i1z) (hl1.extBut hs₁.extBut D.l1z) hx λh₂ h1₂ hs₂=>zc (zc ?_))
 dsimp only;refine za (za (zT ?_));show wpAny _ _ (Builtin.SmallTypes.nextOf (.ref i2) >>= _) _ _ _;refine za (wpAny_nextOf_list_item ((h2.extBut hs₁.extBut D.i2z).extBut hs₂.extBut D.i12.symm) ((hl2.extBut hs₁.extBut D.l2z).extBut hs₂.extBut D.l2i1) hy λh₃ h2₃ hs₃=>zc (zc ?_));dsimp only;refine zc ?_;refine za (wpAny_newTuple ?_ (by show 2<=sizeLine;decide))
 have hsz:h₃.objs.size=s.heap.objs.size:=by rw[hs₃.1,hs₂.1,hs₁.1]
 have hz₃:iU h₃ z TI TO T true:=hs₃.extBut _ _ D.i2z.symm (hs₂.extBut _ _ D.i1z.symm hz₁);refine zc ⟨_,rfl,?_⟩;show Q (.ref h₃.objs.size) _;rw[hsz];have fin:=hQ (h₃.push {cls:=.type "tuple",data:=.seq #[x,y]}) (zu _ hz₃) ((h1₂.extBut hs₃.extBut D.i12).at λo e=>zu _ e) (h2₃.at λo e=>zu _ e)
  (by rw[<-hsz];exact zH _ rfl) (by rw[Heap.size_push,hsz]) λc o c1 c2 c3 e=>zu _ (hs₃.extBut _ _ c3 (hs₂.extBut _ _ c2 (hs₁.extBut _ _ c1 e)))
 exact fin
theorem Vk{z TI TO T i1 i2 l1 l2:Addr}{o:Obj}{b:Bool}{k1 k2:Nat}{xs ys:Array Value}{Q:PySem.Fin->Shared->Prop}(hh:A.handled=none)(D:ZipApart z TI TO i1 i2 l1 l2)
  (hz:iU s.heap z TI TO T b) (hT:s.heap.get? T=some o) (hTI:IsPair s.heap TI (.ref i1) (.ref i2))
  (h1:s.heap.IsListIter i1 l1 k1) (h2:s.heap.IsListIter i2 l2 k2) (hl1:s.heap.IsList l1 xs) (hl2:s.heap.IsList l2 ys) (hend:xs[k1]?=none\/ys[k2]?=none)
  (hE:∀h' e,(∀c o,c≠z->c≠i1->c≠i2->s.heap.get? c=some o->h'.get? c=some o)->(∃o,h'.get? e=some o/\o.cls=.type "StopIteration")->E (.ref e) {s with heap:=h'}):
  wpAny (model prog w) A (Builtin.«zip.__next__» ⟨[.ref z],[]⟩) Q E s:=by
 show wpAny _ _ (field (.ref z) 2 >>= _) _ _ _;refine za (wpAny_field hz rfl (x:=.bool false) rfl ?_);show wpAny _ _ (field (.ref z) 3 >>= _) _ _ _;refine za (wpAny_field hz rfl (x:=.ref TI) rfl ?_);refine za (wpAny_seqItems hTI rfl ?_);show wpAny _ _ (Builtin.SmallTypes.ownedTupleIsFree (.ref z) >>= _) _ _ _;refine za (Hy hz hT λh₁ hz₁ hs₁=>?_);simp only[Bool.false_eq_true,if_false];refine za ?_;simp only[<-Array.forIn_toList,List.forIn_cons,List.forIn_nil];refine za (za (zT ?_));show wpAny _ _ (Builtin.SmallTypes.nextOf (.ref i1) >>= _) _ _ _
 cases hx:xs[k1]? with
 |none =>
  refine za (wpAny_nextOf_list_end hh (h1.extBut hs₁.extBut D.i1z) (hl1.extBut hs₁.extBut D.l1z) hx λh₂ e hs₂ he=>?_);exact hE h₂ e (λc o c1 c2 c3 x=>hs₂ _ _ c2 (hs₁.extBut _ _ c1 x)) he
 |some x =>
  have hy:ys[k2]?=none:=by rcases hend with h | h;rw[hx] at h;cases h;exact h
  refine za (wpAny_nextOf_list_item (h1.extBut hs₁.extBut D.i1z) (hl1.extBut hs₁.extBut D.l1z) hx λh₂ h1₂ hs₂=>zc (zc ?_));dsimp only;refine za (za (zT ?_));show wpAny _ _ (Builtin.SmallTypes.nextOf (.ref i2) >>= _) _ _ _;refine za (wpAny_nextOf_list_end hh ((h2.extBut hs₁.extBut D.i2z).extBut hs₂.extBut D.i12.symm) ((hl2.extBut hs₁.extBut D.l2z).extBut hs₂.extBut D.l2i1) hy λh₃ e hs₃ he=>?_);exact hE h₃ e (λc o c1 c2 c3 x=>hs₃ _ _ c3 (hs₂.extBut _ _ c2 (hs₁.extBut _ _ c1 x))) he
theorem Vl{z TI TO T i1 i2 l1 l2:Addr}{o:Obj}{b:Bool}{k1 k2:Nat}{xs ys:Array Value}{x y:Value}{Q:Option Value->Shared->Prop}(D:ZipApart z TI TO i1 i2 l1 l2)
  (hz:iU s.heap z TI TO T b) (hT:s.heap.get? T=some o) (hTI:IsPair s.heap TI (.ref i1) (.ref i2))
  (h1:s.heap.IsListIter i1 l1 k1) (h2:s.heap.IsListIter i2 l2 k2) (hl1:s.heap.IsList l1 xs) (hl2:s.heap.IsList l2 ys) (hx:xs[k1]?=some x) (hy:ys[k2]?=some y)
  (hQ:∀h',iU h' z TI TO T true->h'.IsListIter i1 l1 (k1+1)->h'.IsListIter i2 l2 (k2+1)->IsPair h' s.heap.objs.size x y->h'.objs.size=s.heap.objs.size+1 ->
   (∀c o,c≠z->c≠i1->c≠i2->s.heap.get? c=some o->h'.get? c=some o)->Q (some (.ref s.heap.objs.size)) {s with heap:=h'}):
  wpAny (model prog w) A (pyNext (.ref z)) Q E s:=by
 have hTy:s.TypeIs (.ref z) "zip":=⟨_,hz,rfl⟩;unfold pyNext
 exact za (wpAny_attempt (wpAny_callSpecial?_slot (name:=Str.ofString "__next__") hTy F.slot_zip_next
  (wpAny_call_entry F.slot_zip_next hTy F.entry_zip_next
   (Vj D hz hT hTI h1 h2 hl1 hl2 hx hy λh' a1 a3 a4 a5 a6 a7=>zc (hQ h' a1 a3 a4 a5 a6 a7)) (F.args_zip_next_1 _))))
theorem Vm{z TI TO T i1 i2 l1 l2:Addr}{o:Obj}{b:Bool}{k1 k2:Nat}{xs ys:Array Value}{Q:Option Value->Shared->Prop}(hh:A.handled=none)(D:ZipApart z TI TO i1 i2 l1 l2)
  (hz:iU s.heap z TI TO T b) (hT:s.heap.get? T=some o) (hTI:IsPair s.heap TI (.ref i1) (.ref i2))
  (h1:s.heap.IsListIter i1 l1 k1) (h2:s.heap.IsListIter i2 l2 k2) (hl1:s.heap.IsList l1 xs) (hl2:s.heap.IsList l2 ys) (hend:xs[k1]?=none\/ys[k2]?=none)
  (hQ:∀h',(∀c o,c≠z->c≠i1->c≠i2->s.heap.get? c=some o->h'.get? c=some o)->Q none {s with heap:=h'}):wpAny (model prog w) A (pyNext (.ref z)) Q E s:=by
 have hTy:s.TypeIs (.ref z) "zip":=⟨_,hz,rfl⟩;unfold pyNext
 refine za (wpAny_attempt (wpAny_callSpecial?_slot (name:=Str.ofString "__next__") hTy F.slot_zip_next
  (wpAny_call_entry F.slot_zip_next hTy F.entry_zip_next (Vk hh D hz hT hTI h1 h2 hl1 hl2 hend λh' e hk he=>?_) (F.args_zip_next_1 _))))
 obtain⟨o',ho',hc⟩:=he;refine za (wpAny_isInstance (T:="StopIteration") (b:=true) ⟨o',ho',hc⟩ isSubtype_stop ?_);exact zc (hQ _ hk)
structure ZS(base:Nat)(h:Heap)(z TI TO i1 i2 l1 l2 S:Addr)(xs ys acc:Array Value)(c i:Nat):Prop where
 zi:(IsZip h z TI TO .none/\∃a b,IsPair h TO a b)\/∃T b o,iU h z TI TO T b/\h.get? T=some o/\T∉[z,TO,i1,i2,S]
 ti:IsPair h TI (.ref i1) (.ref i2)
 it1:h.IsListIter i1 l1 i
 it2:h.IsListIter i2 l2 i
 a1:h.IsList l1 xs
 a2:h.IsList l2 ys
 ls:h.get? S=some {cls:=.type "list",dict:=none,data:=.seq acc c,slots:=#[]}
 sz:acc.size=i
 tl:TO<h.objs.size
 nd:acc.toList.Nodup
 ts:∀(j:Nat) (v:Value),acc[j]?=some v->∃(T:Addr) (x y:Value),v=Value.ref T/\xs[j]?=some x/\ys[j]?=some y/\IsPair h T x y/\T∉[z,TO,i1,i2,S]/\base<=T
variable {R:PySem.Result->Shared->Prop}
theorem Vn{z TI TO i1 i2 l1 l2 S:Addr}{xs ys:Array Value}{n base:Nat}(hh:A.handled=none)(D:ZipApart z TI TO i1 i2 l1 l2)(hS:S∉[z,TI,TO,i1,i2,l1,l2])(res:Value)(hn:n<=sizeLine)(hn1:n<=xs.size)(hn2:n<=ys.size)(hne:n=xs.size\/n=ys.size):
  ∀(k i:Nat) (s:Shared) (acc:Array Value) (c:Nat),n - i=k->i<=n->ZS base s.heap z TI TO i1 i2 l1 l2 S xs ys acc c i->base<=s.heap.objs.size ->
  (∀(h':Heap) (acc':Array Value) (c':Nat),(∀b o,b∉[z,TO,i1,i2,S]->s.heap.get? b=some o->h'.get? b=some o)->h'.get? S=some {cls:=.type "list",dict:=none,data:=.seq acc' c',slots:=#[]}->acc'.size=n->acc'.toList.Nodup ->
   (∀(j:Nat) (v:Value),acc'[j]?=some v->∃(T:Addr) (x y:Value),v=Value.ref T/\xs[j]?=some x/\ys[j]?=some y/\IsPair h' T x y/\T∉[z,TO,i1,i2,S]/\base<=T)->R (.ok (.ret res)) {s with heap:=h'}) ->
  codeAny (model prog w) A (.builtin "list.extend.loop" ⟨[.ref S,.ref z,res],[]⟩) R s:=by
 simp only[zm,List.not_mem_nil,or_false,not_or] at hS;obtain⟨S1,S2,S3,S4,S5,S6,S7⟩:=hS
 have nin:∀b:Addr,b∉[z,TO,i1,i2,S]↔b≠z/\b≠TO/\b≠i1/\b≠i2/\b≠S:=λb=>by simp only[zm,List.not_mem_nil,or_false,not_or]
 intro k
 induction k with
 |zero =>
  intro i s acc c hk hi st hb hR
  have hin:i=n:=by omega
  subst hin;refine codeAny_builtin F.entry_extend_loop ?_;rw[Around.under_plainId F.plain_extend_loop _];show wpAny _ A.in1 (pyNext (.ref z) >>= _) _ _ s
  have hend:xs[i]?=none\/ys[i]?=none:=by
   rcases hne with e | e
   ·left;rw[Array.getElem?_eq_none_iff];omega
   ·right;rw[Array.getElem?_eq_none_iff];omega
  have fin:∀h',(∀b o,b≠z->b≠TO->b≠i1->b≠i2->s.heap.get? b=some o->h'.get? b=some o)->R (.ok (.ret res)) {s with heap:=h'}:=λh' kp =>
   hR h' acc c (λb o hb e=>by obtain⟨b1,b2,b3,b4,b5⟩:=(nin b).mp hb;exact kp b o b1 b2 b3 b4 e) (kp S _ S1 S3 S4 S5 st.ls) st.sz st.nd λj v hv=>by
    obtain⟨T,x,y,e1,e2,e3,e4,e5,e6⟩:=st.ts j v hv;obtain⟨b1,b2,b3,b4,b5⟩:=(nin T).mp e5;exact⟨T,x,y,e1,e2,e3,kp T _ b1 b2 b3 b4 e4,e5,e6⟩
  rcases st.zi with⟨hz,a,b,hTO⟩ | ⟨T,b,o,hz,hT,_⟩
  ·exact za (wpAny_pyNext_zip_end hh D hz st.ti hTO st.it1 st.it2 st.a1 st.a2 hend λh' kp=>zc (fin h' kp))
  ·exact za (Vm hh D hz hT st.ti st.it1 st.it2 st.a1 st.a2 hend λh' kp=>zc (fin h' λb o b1 b2 b3 b4 e=>kp b o b1 b3 b4 e))
 |succ k ih =>
  intro i s acc c hk hi st hb hR
  have hlt:i<n:=by omega
  have hx:xs[i]?=some (xs[i]'(by omega)):=Array.getElem?_eq_getElem _;have hy:ys[i]?=some (ys[i]'(by omega)):=Array.getElem?_eq_getElem _
  generalize xs[i]'(by omega)=x at hx
  generalize ys[i]'(by omega)=y at hy
  refine codeAny_builtin F.entry_extend_loop ?_;rw[Around.under_plainId F.plain_extend_loop _];show wpAny _ A.in1 (pyNext (.ref z) >>= _) _ _ s
  have ltz:z<s.heap.objs.size:=by rcases st.zi with⟨hz,_⟩ | ⟨T,b,o,hz,_⟩<;>exact zf hz
  have ltS:S<s.heap.objs.size:=zf st.ls
  have lt1:i1<s.heap.objs.size:=by obtain⟨_,e,_⟩:=st.it1;exact zf e
  have lt2:i2<s.heap.objs.size:=by obtain⟨_,e,_⟩:=st.it2;exact zf e
  have nxt:wpAny (model prog w) A.in1 (pyNext (.ref z)) (λr s1=>∃h',r=some (.ref s.heap.objs.size)/\s1 = {s with heap:=h'}/\(∃T b o,iU h' z TI TO T b/\h'.get? T=some o/\(T=s.heap.objs.size\/T∉[z,TO,i1,i2,S]))/\h'.IsListIter i1 l1 (i+1)/\h'.IsListIter i2 l2 (i+1)/\IsPair h' s.heap.objs.size x y/\h'.objs.size=s.heap.objs.size+1 /\
    ∀c o,c≠z->c≠TO->c≠i1->c≠i2->s.heap.get? c=some o->h'.get? c=some o) (λ_ _=>False) s:=by
   rcases st.zi with⟨hz,a,b,hTO⟩ | ⟨T,b,o,hz,hT,hTn⟩
   ·exact wpAny_pyNext_zip_item D hz st.ti hTO st.it1 st.it2 st.a1 st.a2 hx hy λh' q1 q2 q3 q4 q5 q6 q7=>⟨h',rfl,rfl,⟨_,false,_,q1,q5,.inl rfl⟩,q3,q4,q5,q6,q7⟩
   ·obtain⟨n1,n2,n3,n4,n5⟩:=(nin T).mp hTn
    exact Vl D hz hT st.ti st.it1 st.it2 st.a1 st.a2 hx hy λh' q1 q3 q4 q5 q6 q7=>⟨h',rfl,rfl,⟨T,true,o,q1,q7 T o n1 n3 n4 hT,.inr hTn⟩,q3,q4,q5,q6,λc o c1 c2 c3 c4 e=>q7 c o c1 c3 c4 e⟩
  have ltO:TO≠s.heap.objs.size:=zB st.tl;have hnew:s.heap.objs.size∉[z,TO,i1,i2,S]:=(nin _).mpr ⟨Nat.ne_of_gt ltz,ltO.symm,Nat.ne_of_gt lt1,Nat.ne_of_gt lt2,Nat.ne_of_gt ltS⟩;refine za (zR nxt ?_ λ_ _ x=>x.elim);rintro r s1 ⟨h',rfl,rfl,⟨T,b,o,hz',hT',hTn'⟩,j1,j2,hp,hsz,kp⟩;have hS':=kp S _ S1 S3 S4 S5 st.ls
  have oth:∀c o,c≠S->h'.get? c=some o->(h'.update S (Obj.mapSeq (·.push (Value.ref s.heap.objs.size)))).get? c=some o:=λc o hc e=>(jc _ _ (Ne.symm hc)).trans e
  have hTn2:T∉[z,TO,i1,i2,S]:=by
   rcases hTn' with e | e
   ·rw[e];exact hnew
   ·exact e
  have hnd:(acc.push (Value.ref s.heap.objs.size)).toList.Nodup:=by
   rw[Array.toList_push,zZ];refine⟨st.nd,by simp,λv hv w hw=>?_⟩;rw[zp.mp hw];rintro rfl;obtain⟨j,hj⟩:=List.mem_iff_getElem?.mp hv;obtain⟨T2,x2,y2,f1,_,_,f4,_⟩:=st.ts j _ (by simpa using hj);cases f1;exact zL _ (zf f4)
  show wpAny _ A.in1 (updateSeq S (·.push (.ref s.heap.objs.size)) >>= _) _ _ _;refine za ?_
  refine je hS' rfl (zc ⟨plainId_quiet F.plain_extend_loop _,ih (i+1) _ (acc.push (.ref s.heap.objs.size)) _ (by omega) hlt ⟨.inr ⟨T,b,o,oth z _ (Ne.symm S1) hz',oth T _ ((nin T).mp hTn2).2.2.2.2 hT',hTn2⟩,
   oth TI _ (Ne.symm S2) (kp TI _ D.TIz D.TITO D.TIi1 D.TIi2 st.ti),j1.at λo e=>oth i1 o (Ne.symm S4) e,j2.at λo e=>oth i2 o (Ne.symm S5) e,
   st.a1.at λo e=>oth l1 o (Ne.symm S6) (kp l1 o D.l1z D.l1TO D.l1i1 D.l1i2 e),st.a2.at λo e=>oth l2 o (Ne.symm S7) (kp l2 o D.l2z D.l2TO D.l2i1 D.l2i2 e),Heap.get?_update_self _ hS' rfl,by rw[Array.size_push,st.sz],by rw[Heap.size_update,hsz];exact jj st.tl,hnd,λj v hv=>?_⟩ ?_ λh2 acc' c' kp2 e1 e2 en e3=>?_⟩)
   (by rw[st.sz];omega) (by show(acc.push _).size<=sizeLine+1;rw[Array.size_push,st.sz];omega)
  ·rw[Array.getElem?_push] at hv;split at hv
   ·rename_i e;rw[st.sz] at e;cases hv;subst e;exact⟨_,x,y,rfl,hx,hy,oth _ _ (Nat.ne_of_gt ltS) hp,hnew,hb⟩
   ·obtain⟨T2,x2,y2,f1,f2,f3,f4,f5,f6⟩:=st.ts j v hv;obtain⟨n1,n2,n3,n4,n5⟩:=(nin T2).mp f5;exact⟨T2,x2,y2,f1,f2,f3,oth T2 _ n5 (kp T2 _ n1 n2 n3 n4 f4),f5,f6⟩
  ·rw[Heap.size_update,hsz];omega
  ·refine hR h2 acc' c' (λb o hb' e=>kp2 b o hb' ?_) e1 e2 en e3;obtain⟨n1,n2,n3,n4,n5⟩:=(nin b).mp hb';exact oth b o n5 (kp b o n1 n2 n3 n4 e)
theorem Vo:typeLookup (.type "zip") "__len__" = pure none:=by rw[typeLookup_type,builtinLookup_eq_fast];kernel_rfl
theorem Vp:typeLookup (.type "zip") "__length_hint__" = pure none:=by rw[typeLookup_type,builtinLookup_eq_fast];kernel_rfl
theorem Vq{z TI TO i1 i2 l1 l2 S:Addr}{xs ys:Array Value}{n base:Nat}(hh:A.handled=none)(D:ZipApart z TI TO i1 i2 l1 l2)(hSn:S∉[z,TI,TO,i1,i2,l1,l2])(res:Value)(hn:n<=sizeLine)(hn1:n<=xs.size)(hn2:n<=ys.size)(hne:n=xs.size\/n=ys.size)(c₀:Nat)(hb:base<=s.heap.objs.size)
  (hz:IsZip s.heap z TI TO .none) (st:ZS base s.heap z TI TO i1 i2 l1 l2 S xs ys #[] c₀ 0)
  (hR:∀(h':Heap) (acc':Array Value) (c':Nat),(∀b o,b∉[z,TO,i1,i2,S]->s.heap.get? b=some o->h'.get? b=some o)->h'.get? S=some {cls:=.type "list",dict:=none,data:=.seq acc' c',slots:=#[]}->acc'.size=n->acc'.toList.Nodup ->
   (∀(j:Nat) (v:Value),acc'[j]?=some v->∃(T:Addr) (x y:Value),v=Value.ref T/\xs[j]?=some x/\ys[j]?=some y/\IsPair h' T x y/\T∉[z,TO,i1,i2,S]/\base<=T)->R (.ok (.ret res)) {s with heap:=h'}):
  wpAny (model prog w) A.in1 (Builtin.List.listExtendWith (.ref S) (.ref z) res)
   (λfin s'=>match fin with | .done f=>R (.ok f) s' | .again c'=>c'.quiet=true/\codeAny (model prog w) A c' R s') (λe s'=>R (.error e) s') s:=by
 have hSn':=hSn;simp only[zm,List.not_mem_nil,or_false,not_or] at hSn';obtain⟨S1,S2,S3,S4,S5,S6,S7⟩:=hSn';have hTy:s.TypeIs (.ref z) "zip":=⟨_,hz,rfl⟩;unfold Builtin.List.listExtendWith;refine za (wpAny_typeOf hTy ?_)
 have h1:Builtin.List.listSameRef (.ref S) (.ref z)=false:=by simp[Builtin.List.listSameRef,S1]
 have h2:(Value.type "zip" == Value.type "list")=false:=by decide
 have h3:(Value.type "zip" == Value.type "tuple")=false:=by decide
 simp only[h1,h2,h3,Bool.or_false,Bool.false_eq_true,if_false];refine za (wpAny_pyIter_zip hz ?_);refine za (zT ?_);unfold Builtin.List.listLengthHint;refine za (wpAny_specialOf hTy Vo ?_);show wpAny _ A.in1 (specialOf (Value.ref z) (Str.ofString "__length_hint__") >>= _) _ _ _;refine za (wpAny_specialOf hTy Vp ?_);refine zc ?_
 show wpAny _ A.in1 (rule "list.extend.makes-room" >>= λ_=>Builtin.List.listTouch (.ref S) >>= λ_ =>
  again (.builtin "list.extend.loop" ⟨[.ref S,.ref z,res],[]⟩)) _ _ _
 refine za (wpAny_rule ?_);refine za ?_;show wpAny _ A.in1 (updateSeq S (·.push .none) >>= λ_=>updateSeq S (·.pop)) _ _ _;have hS:=st.ls;refine za (je hS rfl ?_);have hS₂:=Heap.get?_update_self (Obj.mapSeq (·.push Value.none)) hS rfl;refine je (hz:=by seq_fits) hS₂ rfl ?_;have hS₃:=Heap.get?_update_self (Obj.mapSeq (·.pop)) hS₂ rfl;have oth:∀b o,b≠S->s.heap.get? b=some o->((s.heap.update S (Obj.mapSeq (·.push Value.none))).update S (Obj.mapSeq (·.pop))).get? b=some o :=
  λb o hb e=>(jc _ _ (Ne.symm hb)).trans ((jc _ _ (Ne.symm hb)).trans e)
 obtain⟨a,b',hTO⟩:∃a b,IsPair s.heap TO a b:=by
  rcases st.zi with⟨_,x⟩ | ⟨T,b,o,hz',_⟩
  ·exact x
  ·have q:=Eq.trans (Eq.symm hz) hz';simp[rawInt] at q
 refine zc ⟨plainId_quiet F.plain_extend_loop _,Vn (base:=base) hh D hSn res hn hn1 hn2 hne n 0 _ _ _ rfl (Nat.zero_le _) ⟨.inl ⟨oth z _ (Ne.symm S1) hz,a,b',oth TO _ (Ne.symm S3) hTO⟩,oth TI _ (Ne.symm S2) st.ti,st.it1.at λo e=>oth i1 o (Ne.symm S4) e,st.it2.at λo e=>oth i2 o (Ne.symm S5) e,
  st.a1.at λo e=>oth l1 o (Ne.symm S6) e,st.a2.at λo e=>oth l2 o (Ne.symm S7) e,hS₃,rfl,by rw[Heap.size_update,Heap.size_update];exact st.tl,List.nodup_nil,λj v hv=>by simp at hv⟩ (by rw[Heap.size_update,Heap.size_update];exact hb) λh' acc' c' kp e1 e2 en e3=>?_⟩
 exact hR h' acc' c' (λb o hb' e=>kp b o hb' (oth b o (λz=>hb' (by simp[z])) e)) e1 e2 en e3
theorem Vr{z TI TO i1 i2 l1 l2:Addr}{xs ys:Array Value}{n:Nat}{Q:Value->Shared->Prop}(hh:A.handled=none)(D:ZipApart z TI TO i1 i2 l1 l2)(hn:n<=sizeLine)(hn1:n<=xs.size)(hn2:n<=ys.size)(hne:n=xs.size\/n=ys.size)
  (hz:IsZip s.heap z TI TO .none) (hTI:IsPair s.heap TI (.ref i1) (.ref i2)) {a b:Value} (hTO:IsPair s.heap TO a b) (h1:s.heap.IsListIter i1 l1 0) (h2:s.heap.IsListIter i2 l2 0) (hl1:s.heap.IsList l1 xs) (hl2:s.heap.IsList l2 ys)
  (hQ:∀(h':Heap) (acc':Array Value) (c':Nat),(∀b o,b∉[z,TO,i1,i2]->s.heap.get? b=some o->h'.get? b=some o)->h'.get? s.heap.objs.size=some {cls:=.type "list",dict:=none,data:=.seq acc' c',slots:=#[]}->acc'.size=n->acc'.toList.Nodup ->
   (∀(j:Nat) (v:Value),acc'[j]?=some v->∃(T:Addr) (x y:Value),v=Value.ref T/\xs[j]?=some x/\ys[j]?=some y/\IsPair h' T x y/\T≠s.heap.objs.size/\s.heap.objs.size<=T)->Q (.ref s.heap.objs.size) {s with heap:=h'}):
  wpAny (model prog w) A (call (.type "list") [.ref z]) Q E s:=by
 have ltz:z<s.heap.objs.size:=zf hz;have ltI:TI<s.heap.objs.size:=zf hTI;have ltO:TO<s.heap.objs.size:=zf hTO
 have lt1:i1<s.heap.objs.size:=by obtain⟨_,e,_⟩:=h1;exact zf e
 have lt2:i2<s.heap.objs.size:=by obtain⟨_,e,_⟩:=h2;exact zf e
 have la1:l1<s.heap.objs.size:=by obtain⟨_,e,_⟩:=hl1;exact zf e
 have la2:l2<s.heap.objs.size:=by obtain⟨_,e,_⟩:=hl2;exact zf e
 refine callType_codes (Q₁:=λobj s₁=>obj=.ref s.heap.objs.size/\s₁ = {s with heap:=s.heap.push {cls:=.type "list",data:=.seq #[]}}) F.called_list (F.typeCall_list_1 _) F.entry_list_init
  (code_list_new _ ⟨rfl,rfl⟩) λobj s₁ h₁=>?_
 obtain⟨rfl,rfl⟩:=h₁;have hS:(s.heap.push {cls:=.type "list",data:=.seq #[]}).get? s.heap.objs.size=some {cls:=.type "list",data:=.seq #[]}:=zH _ rfl;refine⟨⟨_,hS,rfl⟩,F.args_list_init_2 _ _,?_⟩;show wpAny _ _ (do let old <-Builtin.List.listItems (.ref s.heap.objs.size);Builtin.List.listUpdate (.ref s.heap.objs.size) (λ_=>#[]);letGo old.toList.reverse;Builtin.List.listExtendWith (.ref s.heap.objs.size) (.ref z) .none) _ _ _;refine za ?_;unfold Builtin.List.listItems;refine za (wpAny_seqItems hS rfl (zc ?_));show wpAny _ _ (updateSeq s.heap.objs.size (λ_=>#[]) >>= λ_=>letGo (#[]:Array Value).toList.reverse >>= λ_=>Builtin.List.listExtendWith (.ref s.heap.objs.size) (.ref z) .none) _ _ _
 refine za (je hS rfl ?_);have hS₂:=Heap.get?_update_self (Obj.mapSeq (λ_=>(#[]:Array Value))) hS rfl;refine za (wpAny_letGo ?_);have oth:∀b o,s.heap.get? b=some o->((s.heap.push {cls:=.type "list",data:=.seq #[]}).update s.heap.objs.size (Obj.mapSeq (λ_=>(#[]:Array Value)))).get? b=some o :=
  λb o e=>(jc _ _ (Nat.ne_of_gt (zf e))).trans (zu _ e)
 have hsz:((s.heap.push {cls:=.type "list",data:=.seq #[]}).update s.heap.objs.size (Obj.mapSeq (λ_=>(#[]:Array Value)))).objs.size=s.heap.objs.size+1:=by rw[Heap.size_update,Heap.size_push]
 refine Vq (base:=s.heap.objs.size) (by exact hh) D (by simp only[zm,List.not_mem_nil,or_false,not_or];exact⟨Nat.ne_of_gt ltz,Nat.ne_of_gt ltI,Nat.ne_of_gt ltO,Nat.ne_of_gt lt1,Nat.ne_of_gt lt2,Nat.ne_of_gt la1,Nat.ne_of_gt la2⟩) .none hn hn1 hn2 hne _ (by show _<=((s.heap.push _).update _ _).objs.size;rw[hsz];exact Nat.le_succ _) (oth _ _ hz)
  ⟨.inl ⟨oth _ _ hz,a,b,oth _ _ hTO⟩,oth _ _ hTI,h1.at λo e=>oth _ o e,h2.at λo e=>oth _ o e,hl1.at λo e=>oth _ o e,hl2.at λo e=>oth _ o e,hS₂,rfl,by show _<((s.heap.push _).update _ _).objs.size;rw[hsz];exact jj ltO,List.nodup_nil,λj v hv=>by simp at hv⟩ λh' acc' c' kp e1 e2 en e3=>?_
 refine⟨rfl,hQ h' acc' c' (λb o hb e=>kp b o (λhm=>?_) (oth b o e)) e1 e2 en λj v hv=>?_⟩
 ·simp only[zm,List.not_mem_nil,or_false,not_or] at hb hm
  have:=zf e
  rcases hm with hm | hm | hm | hm | hm
  ·exact hb.1 hm
  ·exact hb.2.1 hm
  ·exact hb.2.2.1 hm
  ·exact hb.2.2.2 hm
  ·exact absurd this (by rw[hm];exact zL _)
 ·obtain⟨T,x,y,f1,f2,f3,f4,f5,f6⟩:=e3 j v hv;exact⟨T,x,y,f1,f2,f3,f4,λe=>f5 (by simp[e]),f6⟩
end
theorem Un.more{fs ex:List Addr}{H H1:Hp}{h h':Heap}{a:Addr}{o:HO}(u:Un fs ex H H1 h h')(hp:h.objs.size<=a)(hn:H1 a=none):Un fs ex H (upd H1 a o) h h' where
 keep:=u.keep
 slot:=u.slot
 free:=λb ob q n hx=>by rw[aK (zB (zA (zf q) hp))];exact u.free b ob q n hx
 there:=u.there
 tups:=λb xs q=>by have z:=u.tups b xs q;rw[aK (bT z hn)];exact z
 frzs:=λb ob v q=>by have z:=u.frzs b ob v q;rw[aK (bT z hn)];exact z
 tbls:=λb ps q=>by obtain⟨m,z⟩:=u.tbls b ps q;exact⟨m,by rw[aK (bT z hn)];exact z⟩
theorem HOk.more{P:Program}{w:World}{H:Hp}{h:Heap}{a:Addr}{o:HO}(x:HOk P w H h)(hn:H a=none)(new:cG P w (upd H a o) h a o):HOk P w (upd H a o) h:=λb u e=>by
 by_cases hb:b=a
 ·subst hb;rw[bJ] at e;cases e;exact new
 ·rw[aK hb] at e
  exact(x b u e).stay (λc v _ q=>q) (λc q=>by rw[aK (bT q hn)];exact q) λc xs q=>by rw[aK (bT q hn)];exact q
def uq:Hp->List (V×V)->List V->Hp->Prop
 |H,[],ts,H2=>ts=[]/\H2=H
 |H,p::r,ts,H2=>∃T ts',ts=.ref T::ts'/\H T=none/\uq (upd H T (.tup [p.1,p.2])) r ts' H2
theorem Hz{P:Program}{w:World}{fs:List Addr}{H0:Hp}{h h':Heap}:∀(ps:List (V×V)) (vs:List Value) (Hk:Hp),Un fs [] H0 Hk h h'->HOk P w Hk h'->vs.Nodup ->
  Paired (λ(p:V×V) (v:Value)=>∃T x y,v=Value.ref T/\RelV p.1 x/\RelV p.2 y/\IsPair h' T x y/\h.objs.size<=T/\Hk T=none) ps vs ->
  ∃ts H2,uq Hk ps ts H2/\aR ts vs/\Un fs [] H0 H2 h h'/\HOk P w H2 h'/\∀b,Value.ref b∉vs->H2 b=Hk b
 | [],vs,Hk,u,x,_,hp=>by
  cases hp;exact⟨[],Hk,⟨rfl,rfl⟩,.nil,u,x,λ_ _=>rfl⟩
 |p::ps,vs,Hk,u,x,hnd,hp=>by
  cases hp with
  |cons h1 h2 =>
   obtain⟨T,u1,u2,rfl,r1,r2,hT,hle,hn⟩:=h1;rw[List.nodup_cons] at hnd;have u':Un fs [] H0 (upd Hk T (.tup [p.1,p.2])) h h':=u.more hle hn;have x':HOk P w (upd Hk T (.tup [p.1,p.2])) h':=x.more hn ⟨by show 2<=sizeLine;decide,[u1,u2],.cons r1 (.cons r2 .nil),⟨_,hT,rfl,_,rfl⟩⟩;have go:∀(ps:List (V×V)) (ws:List Value),Value.ref T∉ws->Paired (λ(p:V×V) (v:Value)=>∃T x y,v=Value.ref T/\RelV p.1 x/\RelV p.2 y/\IsPair h' T x y/\h.objs.size<=T/\Hk T=none) ps ws ->
     Paired (λ(q:V×V) (v:Value)=>∃T' x y,v=Value.ref T'/\RelV q.1 x/\RelV q.2 y/\IsPair h' T' x y/\h.objs.size<=T'/\upd Hk T (.tup [p.1,p.2]) T'=none) ps ws:=λps ws hw hq=>by
    induction hq with
    |nil=>exact .nil
    |cons a b ih =>
     rw[zm,not_or] at hw;obtain⟨T',x,y,e1,e2,e3,e4,e5,e6⟩:=a;refine .cons ⟨T',x,y,e1,e2,e3,e4,e5,?_⟩ (ih hw.2);rw[aK (λz=>hw.1 (by rw[e1,z]))];exact e6
   obtain⟨ts,H2,g1,g2,g3,g4,g5⟩:=Hz ps _ _ u' x' hnd.2 (go _ _ hnd.1 h2);refine⟨.ref T::ts,H2,⟨T,ts,rfl,hn,g1⟩,.cons rfl g2,g3,g4,λb hb=>?_⟩;rw[zm,not_or] at hb;rw[g5 b hb.2,aK (λz=>hb.1 (by rw[z]))]
theorem HB{α β:Type}{R:α->β->Prop}:∀(ps:List α) (vs:List β),ps.length=vs.length->(∀(j:Nat) p v,ps[j]?=some p->vs[j]?=some v->R p v)->Paired R ps vs
 | [],[],_,_=>.nil
 | [],_::_,h,_=>by cases h
 | _::_,[],h,_=>by cases h
 |p::ps,v::vs,h,f=>.cons (f 0 p v rfl rfl) (HB ps vs (Nat.succ.inj h) λj p v a b=>f (j+1) p v a b)
section
variable {X:Cx}
def tLZ(K:Frag)(ta:TA):TE:=λσ H Q=>ta σ H λvs H1=>∃a b xs ys,vs=[.ref a,.ref b]/\SqL K H1 a xs/\SqL K H1 b ys/\∀ts H2,uq H1 (xs.zip ys) ts H2->∀l,H2 l=none->Q (.ref l) (upd H2 l (.lst ts))
theorem Vs{a b:Expr}{ta:TA}{p p' pos pos':Pos}(hc:X.calm=true)(hgl:Gl X "list")(hml:X.mg "list" = none)(hgz:Gl X "zip")(hmz:X.mg "zip" = none)(ha:PA X [a,b] ta)
  (hs:starEach [a,b] X.env=(false,eval a X.env)::starEach [b] X.env:=by exact cD rfl) (hpl:(backTo pos' (starEach [b] X.env)).any (·.1)=false:=by exact eO rfl)
  (he:starEach [.Call (.Name "zip" p') [a,b] [] pos'] X.env=(false,eval (.Call (.Name "zip" p') [a,b] [] pos') X.env)::starEach [] X.env:=by exact cD rfl):
  PE X (.Call (.Name "list" p) [.Call (.Name "zip" p') [a,b] [] pos'] [] pos) (tLZ X.K ta):=by
 intro pins s σ H Q I h;refine Call_ (gW I hgl hml qp (PyProof.Rows.callWith_type1 ?_ he rfl));rw[he];show wpAny _ _ (spliced ((false,eval (.Call (.Name "zip" p') [a,b] [] pos') X.env)::backTo pos (starEach [] X.env))) _ _ s;refine Calls.spliced_cons ?_;refine Call_ (gW I hgz hmz boot_zip (PyProof.Rows.callWith_type1 (thn (ha pos' pins s σ H _ I h) λus s1 ⟨vs,H1,I1,r1,q1⟩=>?_) hs hpl));obtain⟨l1,l2,xs,ys,e,hq1,hq2,q⟩:=q1;subst e;obtain⟨u1,u2,rfl,ru1,ru2⟩:=vals2 r1;cases ru1;cases ru2;obtain⟨its1,rv1,pl1,hz1⟩:=I1.list hq1;obtain⟨its2,rv2,pl2,hz2⟩:=I1.list hq2
 have a1:l1<s1.heap.objs.size:=by obtain⟨_,e,_⟩:=pl1.isList;exact zf e
 have a2:l2<s1.heap.objs.size:=by obtain⟨_,e,_⟩:=pl2.isList;exact zf e
 have len1:=rv1.length;have len2:=rv2.length
 refine call_zip_2 pl1.isList pl2.isList λh' hz hTI hTO hit1 hit2 hsz hk=>?_
 refine Calls.spliced_nil ?_;refine Vr (s:={s1 with heap:=h'}) (n:=min its1.length its2.length) (I.ok.hd hc) (zipApart_new a1 a2) (by omega) (by rw[zq];omega) (by rw[zq];omega) (by rw[zq,zq];omega) hz hTI hTO hit1 hit2
  (pl1.isList.at λo e=>hk l1 o e) (pl2.isList.at λo e=>hk l2 o e) λh2 acc c kp e1 e2 en e3=>?_
 have k:∀b o,s1.heap.get? b=some o->h2.get? b=some o:=λb o e=>kp b o (λhm=>by
  have:=zf e
  simp only[zm,List.not_mem_nil,or_false] at hm
  rcases hm with rfl | rfl | rfl | rfl
  ·exact Nat.not_lt.mpr (zX _ _) this
  ·exact Nat.not_lt.mpr (zX _ _) this
  ·exact zL _ this
  ·exact Nat.not_lt.mpr (zX _ _) this) (hk b o e)
 have hlen:acc.toList.length=(xs.zip ys).length:=by rw[Array.length_toList,e2,List.length_zip];omega
 have hsz':({s1 with heap:=h'}:Shared).heap.objs.size=s1.heap.objs.size+5:=hsz
 have hp:Paired (λ(p:V×V) (v:Value)=>∃T x y,v=Value.ref T/\RelV p.1 x/\RelV p.2 y/\IsPair h2 T x y/\s1.heap.objs.size<=T/\H1 T=none) (xs.zip ys) acc.toList:=HB _ _ hlen.symm λj p v hpj hvj=>by
  obtain⟨T,x,y,f1,f2,f3,f4,f5,f6⟩:=e3 j v (by simpa using hvj);rw[List.getElem?_zip_eq_some] at hpj;obtain⟨w1,w1',w2⟩:=rv1.get hpj.1;obtain⟨w3,w3',w4⟩:=rv2.get hpj.2
  have f2':its1[j]?=some x:=by simpa using f2
  have f3':its2[j]?=some y:=by simpa using f3
  rw[f2'] at w1';rw[f3'] at w3';cases w1';cases w3'
  have hle:s1.heap.objs.size<=T:=by omega
  exact⟨T,x,y,f1,w2,w4,f4,hle,I1.hok.fresh hle⟩
 obtain⟨ts,H2,g1,g2,g3,g4,g5⟩:=Hz (P:=X.prog) (w:=X.w) (fs:=X.fs) (h:=s1.heap) (xs.zip ys) acc.toList H1 (Un.kept k) (I1.hok.kept k) en hp
 have hSn:H2 ({s1 with heap:=h'}:Shared).heap.objs.size=none:=by
  rw[g5 _ λhm=>?_]
  ·exact I1.hok.fresh (by omega)
  ·obtain⟨j,hj⟩:=List.mem_iff_getElem?.mp hm;obtain⟨T,x,y,f1,_,_,_,f5,_⟩:=e3 j _ (by simpa using hj);cases f1;exact f5 rfl
 have hts:ts.length<=sizeLine:=by
  have q1:=g2.length;have q2:acc.toList.length=acc.size:=Array.length_toList;omega
 have hok:=g4.more (o:=.lst ts) hSn ⟨hts,acc.toList,c,g2,by rw[Array.toArray_toList];exact e1⟩;exact⟨.ref _,upd H2 _ (.lst ts),I1.un (t':=s1.toks) (g3.more (o:=.lst ts) (by omega) hSn) hok,rfl,q ts H2 g1 _ hSn⟩
end
theorem HD{K:Frag}{mg:Str->Option Value}{O:ao}{as:List Addr}:∀(ds es:List D) (xs ys:List V) (H F:Hp) (ts:List V) (H2:Hp),RlO K mg O H F as->Rps K F as xs ds->Rps K F as ys es->uq H (xs.zip ys) ts H2->∃F2,Gr H F as H2 F2 as/\RlO K mg O H2 F2 as/\Rps K F2 as ts (di ds es)
 | [],es,xs,ys,H,F,ts,H2,r,h1,h2,g=>by
  rw[h1.un0] at g;obtain⟨rfl,rfl⟩:=g;exact⟨F,Gr.refl,r,Rps.nil⟩
 |d::ds,[],xs,ys,H,F,ts,H2,r,h1,h2,g=>by
  rw[h2.un0,List.zip_nil_right] at g;obtain⟨rfl,rfl⟩:=g;exact⟨F,Gr.refl,r,Rps.nil⟩
 |d::ds,e::es,xs,ys,H,F,ts,H2,r,h1,h2,g=>by
  obtain⟨x,xr,rfl,h3,h4⟩:=h1.un;obtain⟨y,yr,rfl,h5,h6⟩:=h2.un;rw[List.zip_cons_cons] at g;obtain⟨T,ts',rfl,hp,g⟩:=g;have hF:=r.frF hp
  have ff:Same F (upd F T (.tup [x,y])):=λb u q=>by rw[aK (bT q hF)];exact q
  have hs:Rps K F as [x,y] [d,e]:=Rps.cons h3 (Rps.cons h5 Rps.nil);have G1:Gr H F as (upd H T (.tup [x,y])) (upd F T (.tup [x,y])) as:=(Gr.lay hp).frz hp hF;have r1:RlO K mg O (upd H T (.tup [x,y])) (upd F T (.tup [x,y])) as:=(r.lay hp).frz bJ hF (λz=>r.all z hp) rfl;have rT:Rp K (upd F T (.tup [x,y])) as (.ref T) (.tup [d,e]):=Rp.mkT (.inl bJ) (Rps.mono ff (λ_ _ z=>z) _ hs);obtain⟨F2,G2,r2,q2⟩:=HD ds es xr yr _ _ ts' H2 r1 (h4.gr G1) (h6.gr G1) g;exact⟨F2,G1.trans G2,r2,Rps.cons (rT.gr G2) q2⟩
def gLZ:List D->Option D
 | [.lst ds,.lst es]=>some (.lst (di ds es))
 | _=>none
section
variable {X:Cx}{md:List Md}{P:Pt}
theorem Vt{a b:Expr}{ms:List Md}{ma:M (List D)}{p p' pos pos':Pos}(hc:X.calm=true)(hml:X.mg "list" = none)(hmz:X.mg "zip" = none)(ha:AE X md P ms [a,b] ma)(hgl:Gl X "list":=by rfl)(hgz:Gl X "zip":=by rfl)
  (hs:starEach [a,b] X.env=(false,eval a X.env)::starEach [b] X.env:=by exact cD rfl) (hpl:(backTo pos' (starEach [b] X.env)).any (·.1)=false:=by exact eO rfl)
  (he:starEach [.Call (.Name "zip" p') [a,b] [] pos'] X.env=(false,eval (.Call (.Name "zip" p') [a,b] [] pos') X.env)::starEach [] X.env:=by exact cD rfl):
  OE X md P (.Call (.Name "list" p) [.Call (.Name "zip" p') [a,b] [] pos'] [] pos) (aX gLZ ma):=(Vs hc hgl hml hgz hmz ha hs hpl he).imp λσ H Q q=>by
 have q':tCB (rC X.K X.mg gLZ) (tMA X.K X.mg md P ms ma) σ H Q:=t7 q;obtain⟨ρ,O,F,as,ds,O',r,s,e1,k⟩:=q';refine⟨ρ,O,F,as,ds,O',r,s,e1,λvs H1 F1 as1 g1 r1 hv=>?_⟩;obtain⟨O2,F2,as2,es,d,r2,hvs,e,k2⟩:=k vs H1 F1 as1 g1 r1 hv;unfold gLZ at e;split at e
 ·rename_i xs ys;cases e;obtain⟨v,u,rfl,hv1,hv2⟩:=hvs.two;obtain⟨a1,x1,rfl,q1,q2⟩:=hv1.list r2.fh;obtain⟨a2,x2,rfl,q3,q4⟩:=hv2.list r2.fh;refine⟨a1,a2,x1,x2,rfl,q1.sq,q3.sq,λts H2 gr l hl=>?_⟩;obtain⟨F3,G3,r3,p3⟩:=HD xs ys x1 x2 H1 F2 ts H2 r2 q2 q4 gr;exact k2 _ _ F3 (G3.trans (Gr.lay hl)) (r3.lay hl) (.inr ⟨l,ts,_,rfl,rfl,bJ,r3.frF hl,λz=>r3.all z hl,G3.dm l hl,p3⟩)
 ·cases e
end
section
end
end L2
namespace L2
open PySem PySem.Spec PyProof.Rows PySem.W
section
variable {X:Cx}{md:List Md}{P:Pt}
end
end L2
namespace L2
open PySem PySem.Spec PyProof.Rows
section
variable {X:Cx}{md:List Md}{P:Pt}{R:RR}
def iV(n:Nat)(all:List D)(g:MG)(t:M Bool)(m:M D):List D->az->ao->List D->Res (List D)
 | [],ρ,O,acc=>match O[n]? with
  |some (.ml es)=>if es.length=all.length then .ok acc O else .no
  | _=>.no
 |d::ds,ρ,O,acc=>match O[n]? with
  |some (.ml es)=>match es[all.length - (ds.length+1)]? with
   |some d'=>match g (.tup [.int ((all.length - (ds.length+1):Nat):Int),d']) ρ with
    |none=>.no
    |some ρ1=>match t ρ1 O with
     | .ok true O1=>match m ρ1 O1 with
      | .ok y O2=>iV n all g t m ds ρ1 O2 (acc++[y])
      | .ex x O'=>.ex x O'
      | .no=>.no
     | .ok false O1=>iV n all g t m ds ρ1 O1 acc
     | .ex x O'=>.ex x O'
     | .no=>.no
   |none=>.no
  | _=>.no
def lF(m:M D)(own:Nat)(cap:List Nat)(g:MG)(t:M Bool)(e:M D):M D:=λρ O=>match m ρ O with
 | .ok (.ob n) O1=>match O1[n]? with
  |some (.ml ds)=>if ds.length<=1000000 then(iV n ds g t e ds (iK own cap ρ) O1 []).bind λys O2=>.ok (.lst ys) O2 else .no
  | _=>.no
 | _=>cI (n8 m) own cap g t e ρ O
theorem Vu{K:Frag}{mg:Str->Option Value}{m:M D}{σ:St}{H:Hp}{Q:It->Hp->Prop}(q:xK K mg md P (n8 m) σ H Q):ud K (sY (tM K mg md P (rW K P) m) pQ) σ H Q:=by
 obtain⟨ρ,O,F,as,ds,O',r,s,e,k⟩:=q;obtain⟨d,O1,e1,e⟩:=Res.bind_ok e
 cases d with
 |lst es =>
  cases e;refine⟨ρ,_,F,as,_,_,r,s,e1,λv H1 F1 as1 g1 r1 hv=>?_⟩;obtain⟨a,xs,rfl,h1,h2⟩:=qw (mg:=mg) hv;refine⟨a,rfl,⟨xs,(h2 H1 F1 as1 GrS.refl ⟨_,r1⟩).sq⟩,k _ H1 F1 as1 g1 r1 (lr.e (P:=P) ⟨λi d H2 F2 as2 g r e=>?_,λH2 F2 as2 g r=>⟨xs,(h2 H2 F2 as2 g r).sq,by rw[nZ,h1.length];exact zb _⟩⟩)⟩;rw[qx] at e
  cases q:es[i]? with
  |none=>rw[q] at e;cases e
  |some y =>
   rw[q] at e;cases e;obtain⟨x,h3,h4⟩:=h1.get' q;have hq:=h2 H2 F2 as2 g r;refine⟨⟨xs,x,hq.sq,h3⟩,λz H3 hz=>?_⟩;obtain⟨T,x',rfl,hT,rfl,hx'⟩:=hz
   have:=hx' xs hq.sq
   rw[h3] at this;cases this;rw[zC];exact n6 r hT (Rps.cons Rp.int (Rps.cons (h4.grS g) Rps.nil))
 | _=>cases e
theorem Vv{K:Frag}{mg:Str->Option Value}{m:M D}{own:List Str}{cap:List Nat}{g:MG}{t:M Bool}{e:M D}(hcap:∀j∈cap,j<md.length){σ:St}{H:Hp}{Q:VK}(q:tM K mg md P (rO K) (lF m own.length cap g t e) σ H Q):
  tL (ud K (sY (tM K mg md P (rW K P) m) pQ)) own cap (xMG K mg (cMd own.length cap md) g) (xMT K mg (cMd own.length cap md) t) (xM K mg (cMd own.length cap md) (rV K) e) σ H Q:=by
 obtain⟨ρ,O,F,as,d,OZ,r,s,eq,k⟩:=q;unfold lF at eq;split at eq
 ·rename_i n O1 e1;split at eq
  ·rename_i ds e2;split at eq
   ·rename_i hz;obtain⟨yf,O2,e3,eq⟩:=Res.bind_ok eq;cases eq;refine⟨ρ,_,F,as,_,_,r,s,e1,λv H1 F1 as1 g1 r1 hv=>?_⟩
    have hv':Rp K F1 as1 v (.ob n):=by
     rcases hv with hv | ⟨a,xs,ds',_,z,_⟩
     ·exact hv
     ·cases z
    obtain⟨a,rfl,ha⟩:=Rp.unO hv';obtain⟨xs0,x1,x2⟩:=r1.ml ha e2;have sb:=GF (own:=own) (s.step g1) hcap
    refine⟨a,rfl,⟨xs0,.inl (.inl x1)⟩,λi n' ys σ' H'=>n'=ds.length - i/\i<=ds.length/\∃ρ' O' F' as' acc,Gr H1 F1 as1 H' F' as'/\RlO K mg O' H' F' as'/\SlO K (cMd own.length cap md) (Pt.all H1) ρ' σ' H' F' as'/\Rps K F' as' ys acc/\acc.length<=i /\
     iV n ds g t e (ds.drop i) ρ' O' acc=.ok yf OZ,⟨ds.length,by simp,Nat.zero_le _,iK own.length cap ρ,O1,F1,as1,[],Gr.refl,r1,sb,Rps.nil,zb _,by rw[List.drop_zero];exact e3⟩,?_⟩
    rintro i n' ys σ' H' ⟨rfl,hi,ρ',O',F',as',acc,g',r',s',hy,hl,ec⟩;have ha':=g'.at_ n a ha
    by_cases hlt:i<ds.length
    ·rw[List.drop_eq_getElem_cons hlt] at ec;unfold iV at ec;split at ec
     ·rename_i es ee;obtain⟨xs,y1,y2⟩:=r'.ml ha' ee
      have hidx:ds.length - ((ds.drop (i+1)).length+1)=i:=by rw[List.length_drop];omega
      rw[hidx] at ec;split at ec
      ·rename_i d' ed;obtain⟨x,hx,rx⟩:=y2.get' ed;have hsq:SqL K H' a xs:=.inl (.inl y1)
       refine .inr ⟨⟨xs,x,hsq,hx⟩,?_,λys σ2 H2=>∃ρ2 O3 F2 as2 acc2,Gr H1 F1 as1 H2 F2 as2/\RlO K mg O3 H2 F2 as2/\SlO K (cMd own.length cap md) (Pt.all H1) ρ2 σ2 H2 F2 as2/\Rps K F2 as2 ys acc2/\acc2.length<=i+1 /\
        iV n ds g t e (ds.drop (i+1)) ρ2 O3 acc2=.ok yf OZ,λys2 σ2 H2 h2=>⟨ds.length - (i+1),by omega,rfl,hlt,h2⟩,λz3 H3 y=>?_⟩
       ·rw[hy.length]
        have:=fQ hz
        omega
       obtain⟨T,x2',rfl,hT,rfl,hyy⟩:=y;have hxx:=hyy xs hsq;rw[hx] at hxx;cases hxx;obtain⟨F3,g3,r3,rp3⟩:=n6 ⟨_,r'⟩ hT (Rps.cons (Rp.int (i:=(i:Int))) (Rps.cons rx Rps.nil));have r3':=r3 O' r';have g13:=g'.trans g3
       cases eg:g (.tup [.int (i:Int),d']) ρ' with
       |none=>rw[eg] at ec;cases ec
       |some ρ1 =>
        rw[eg] at ec;dsimp only at ec;refine⟨_,ρ',O',F3,as',_,ρ1,r3',s'.step g3,rp3,eg,λσ4 s4=>?_⟩
        cases et:t ρ1 O' with
        |ex _ _=>rw[et] at ec;cases ec
        |no=>rw[et] at ec;cases ec
        |ok c O4 =>
         rw[et] at ec;refine⟨_,ρ1,O',F3,as',c,O4,r3',s4,et,λH5 F5 as5 g5 r5=>?_⟩
         cases c with
         |false =>
          rw[if_neg zk];exact⟨ρ1,O4,F5,as5,acc,g13.trans g5,r5,s4.step g5,(hy.gr g3).gr g5,by omega,ec⟩
         |true =>
          rw[if_pos rfl];dsimp only at ec
          cases em:e ρ1 O4 with
          |ex _ _=>rw[em] at ec;cases ec
          |no=>rw[em] at ec;cases ec
          |ok yd O6 =>
           rw[em] at ec;refine⟨_,ρ1,O4,F5,as5,yd,O6,r5,s4.step g5,em,λvy H7 F7 as7 g7 r7 hvy=>?_⟩;exact⟨ρ1,O6,F7,as7,acc++[yd],(g13.trans g5).trans g7,r7,(s4.step g5).step g7,(((hy.gr g3).gr g5).gr g7).snoc hvy,by rw[ze];show acc.length+1<=i+1;omega,ec⟩
      ·cases ec
     ·cases ec
    ·have hi':i=ds.length:=by omega
     subst hi';rw[List.drop_length] at ec;unfold iV at ec;split at ec
     ·rename_i es ee;split at ec
      ·rename_i hle;cases ec;obtain⟨xs,y1,y2⟩:=r'.ml ha' ee;refine .inl ⟨⟨xs,.inl (.inl y1),by rw[y2.length,hle];exact zb _⟩,?_,λp hp=>?_⟩
       ·rw[hy.length];exact zG hl (fQ hz)
       ·have hF:F' p=none:=by
         cases q:F' p with
         |none=>rfl
         |some o=>rw[r'.fh p o q] at hp;cases hp
        exact k _ _ F' as' ((g1.trans g').trans (Gr.lay hp)) (r'.lay hp) (.inr ⟨p,ys,yf,rfl,rfl,bJ,hF,λz=>r'.all z hp,(g1.trans g').dm p hp,hy⟩)
      ·cases ec
     ·cases ec
   ·cases eq
  ·cases eq
 ·exact Vu (tX hcap ⟨ρ,O,F,as,d,OZ,r,s,eq,k⟩)
variable {elts:List Expr}{x1:Nat}{tpos:Pos}{a elt:Expr}{ifs:List Expr}{scope:Scope}{p pos pe:Pos}{m:M D}{g:MG}{t:M Bool}{e:M D}
theorem Vw{i:Nat}{x:Str}{pos' spos:Pos}(sc0:Scope)(N0 own:List Str)(cap:List Nat)(hN:X.N.Nodup)(hx:X.N[i]?=some x)(hl:Loc X.env.scope x)(hc:X.calm=true)(hme:X.mg "enumerate" = none)(hi:WE X md P a m)
  (hg:∀C s H ex P,VG (bV X scope C (bC N0 own cap) s H ex) (cMd own.length cap md) P (.Tuple elts x1 tpos) g) (ht:∀C s H ex P,VIf (bV X scope C (bC N0 own cap) s H ex) (cMd own.length cap md) P ifs t)
  (he:∀C s H ex P,VE (bV X scope C (bC N0 own cap) s H ex) (cMd own.length cap md) P elt e)
  (hm:md[i]?=some .v:=by rfl) (hcap:∀j∈cap,j<md.length:=by decide) (hsw:swapsWith (.ListComp elt [⟨.Tuple elts x1 tpos,.Call (.Name "enumerate" p) [a] [] pe,ifs,0⟩] scope pos) (some (.Name x pos')) spos.line X.env=pure true:=by rfl)
  (hf:X.fn x=true\/X.env.scope.names.lookup x=some .local:=by first | exact .inl rfl | exact .inr rfl | assumption)
  (hG:Gl X "enumerate":=by rfl) (hs1:starEach [a] X.env=[(false,eval a X.env)]:=by exact iG rfl) (hs2:starEach [a] X.env=(false,eval a X.env)::starEach [] X.env:=by exact cD rfl)
  (hsc:X.env.scope=sc0:=by rfl) (hN0:X.N=N0:=by rfl) (ok:kW sc0 N0 scope own cap=true:=by decide +kernel) (hs:∀x,foldedSetIterable (.Call (.Name "enumerate" p) [a] [] pe) X.env x=pure x:=by intro _;rfl):
  VS X md P R (.Assign [.Name x pos'] (.ListComp elt [⟨.Tuple elts x1 tpos,.Call (.Name "enumerate" p) [a] [] pe,ifs,0⟩] scope pos) spos) (aC i (lF m own.length cap g t e)):=
 (xB (i:=i) sc0 N0 own cap hN hx hl hc (xY hG hme (gZ hi jw hs2) hs1) (λC s H ex=>xmg (hg C s H ex)) (λC s H ex=>xmt (ht C s H ex)) (λC s H ex=>xm (he C s H ex)) hsw hf hsc hN0 ok hs).imp λD σ H q =>
  xJ hm (λσ H Q z=>Vv hcap (by
   obtain⟨ρ,O,F,as,d,O',r,s,e,k⟩:=z;refine⟨ρ,_,F,as,_,_,r,s,e,λv H' F' as' g r' hv=>?_⟩
   rcases hv with⟨_,hv⟩ | ⟨a,xs,ds,rfl,rfl,e3,e4,e5,e6,e7⟩
   ·exact k v H' F' as' g r' hv
   ·have ff:Same F' (upd F' a (.lst xs)):=λb u q=>by rw[aK (bT q e4)];exact q
    exact k _ H' (upd F' a (.lst xs)) as' (g.frz e6 e4) (r'.frz e3 e4 e5 rfl) (Rp.mkL (.inl (.inl bJ)) (Rps.mono ff (λ_ _ z=>z) _ e7)))) q
end
section
variable {X:Cx}{md:List Md}{P:Pt}{R:RR}{tg:Expr}
end
structure cg(mg:Str->Option Value):Prop extends Hx mg where
 reversed_:mg "reversed" = none
end L2
namespace L2
open PySem PySem.Spec PyProof.Rows PySem.W
def mdI:Option Int->List Int->Option Int
 |b,[]=>b
 |none,n::r=>mdI (some n) r
 |some m,n::r=>mdI (some (if n<m then n else m)) r
def MdV(d v:Value):Option Int->Prop
 |none=>v=d
 |some m=>∃t,v=.int m t
def MdB(bs:Array Value):Option Int->Prop
 |none=>bs = #[]
 |some m=>∃t,bs = #[.int m t,.int m t]
section
variable {prog:Program}{w:World}{A:Around}{E:Value->Shared->Prop}
theorem Vx{id:String}{b:Builtin}{as:List Value}{kw:List (Str×Value)}{s:Shared}{Q:Value->Shared->Prop}(k0:builtinKind id=none)(p0:plainId id=true)(b0:entryFor table id=some b)(a0:argsOk id ⟨as,kw⟩)
  (c0:wpAny (model prog w) A.in1 (b ⟨as,kw⟩) (λfin s'=>match fin with
   | .done f=>(match(Except.ok f:Result) with | .ok (.ret v)=>Q v s' | .ok _=>False | .error e=>E e s')
   | .again c=>c.quiet=true/\codeAny (model prog w) A c (λr s'=>match r with | .ok (.ret v)=>Q v s' | .ok _=>False | .error e=>E e s') s') E s):
  wpAny (model prog w) A (call (.builtin id) as kw) Q E s:=by
 refine wpAny_call (codeAny_call_builtin p0 b0 ?_);simp only[checkBuiltinCall,k0]
 cases g0:Manifest.signature? id with
 |none=>exact zc c0
 |some sg =>
  simp only[argsOk,g0] at a0;have z:Bind.checkArgs id sg ⟨as,kw⟩=pure ():=a0;show wpAny _ A.in1 (Bind.checkArgs id sg ⟨as,kw⟩) _ _ s;rw[z];exact zc c0
theorem Vy{n m:Int}{t u:Tok}{s:Shared}{Q:Value->Shared->Prop}(q:Q (.bool (decide (n<m))) s):wpAny (model prog w) A (richCompare .Lt (.int n t) (.int m u)) Q E s :=
 CmpOf.ints_lt (A:=A) (P:=λi v=>∃t,v=.int (if i=0 then n else m) t) (λi=>if i=0 then n else m) (λ_ _ z=>z) 0 1 _ _ s Q E ⟨t,rfl⟩ ⟨u,rfl⟩ q
theorem Vz{R:Result->Shared->Prop}{l i0 S:Addr}{its:List Value}{d:Value}(hh:A.in1.handled=none)(n1:l≠i0)(n2:S≠i0)(n3:S≠l):
  ∀(us:List Value) (ns:List Int) (pre:List Value) (b:Option Int) (bs:Array Value) (s:Shared) (c:Nat),its=pre++us->aR (ns.map V.int) us->s.heap.IsListIter i0 l pre.length->s.heap.IsList l its.toArray->MdB bs b ->
   s.heap.get? S=some {cls:=.type "list",dict:=none,data:=.seq bs c,slots:=#[]} ->
   (∀v h' tk,MdV d v (mdI b ns)->(∀x o,x≠i0->x≠S->s.heap.get? x=some o->h'.get? x=some o)->R (.ok (.ret v)) {s with heap:=h',toks:=tk}) ->
   codeAny (model prog w) A (.builtin "min.loop" ⟨[.ref i0,.none,.ref S],[("default",d)]⟩) R s:=by
 have W:=Walks.list (prog:=prog) (w:=w) hh i0 l n1 its.toArray
 have nm:(toString "min" ++ toString ".loop":String) = "min.loop":=by decide
 have nS:S∉[i0]:=λz=>n2 (zp.mp z)
 have ni:∀x:Addr,x≠i0->x∉[i0]:=λx z y=>z (zp.mp y)
 intro us
 induction us with
 |nil =>
  intro ns pre b bs s c e rv it hl hb hS hR
  have ens:ns=[]:=by
   cases ns with
   |nil=>rfl
   |cons=>cases rv
  subst ens
  have el:pre.length=its.toArray.size:=by rw[e];simp
  rw[el] at it;refine codeAny_builtin PySem.F.entry_min_loop ?_;rw[Around.under_plainId PySem.F.plain_min_loop _];show wpAny _ A.in1 (seqItems? (.ref S) >>= _) _ _ s;refine za (wpAny_seqItems hS rfl ?_);show wpAny _ A.in1 (tryCatch (pyNext (.ref i0)) _ >>= _) _ _ s;refine za (wpAny_tryCatch (W.done s _ _ ⟨it,hl⟩ λh1 tk kp=>?_));have hS1:=kp S _ nS hS
  cases b with
  |none =>
   have hb':bs = #[]:=hb;subst hb';show wpAny _ A.in1 (rule _ >>= _) _ _ _;refine za (wpAny_rule ?_);exact zc (hR d h1 tk rfl λx o z1 z2 q=>kp x o (ni x z1) q)
  |some m =>
   obtain⟨t,hb'⟩:=hb;subst hb';show wpAny _ A.in1 (updateSeq S (λ_=>#[]) >>= _) _ _ _;refine za ?_;refine je hS1 rfl (za (wpAny_letGo (zc ?_)))
   exact hR (.int m t) _ tk ⟨t,rfl⟩ λx o z1 z2 q=>(jc _ _ (Ne.symm z2)).trans (kp x o (ni x z1) q)
 |cons u us ih =>
  intro ns pre b bs s c e rv it hl hb hS hR
  cases ns with
  |nil=>cases rv
  |cons n ns =>
   have rv':aR (V.int n::ns.map V.int) (u::us):=rv
   obtain⟨ru,rus⟩:RelV (.int n) u/\aR (ns.map V.int) us:=by
    cases rv' with
    |cons a b=>exact⟨a,b⟩
   obtain⟨tu,rfl⟩:=ru
   have el:pre.length<its.toArray.size:=by rw[e];simp
   have e':its=(pre++[Value.int n tu])++us:=by rw[e];simp
   have eg:its.toArray[pre.length]?=some (Value.int n tu):=by rw[e];simp
   refine codeAny_builtin PySem.F.entry_min_loop ?_;rw[Around.under_plainId PySem.F.plain_min_loop _];show wpAny _ A.in1 (seqItems? (.ref S) >>= _) _ _ s;refine za (wpAny_seqItems hS rfl ?_);show wpAny _ A.in1 (tryCatch (pyNext (.ref i0)) _ >>= _) _ _ s;refine za (wpAny_tryCatch (W.item pre.length s _ _ el ⟨it,hl⟩ λv h1 tk hv st kp=>?_));rw[eg] at hv;cases hv;have hS1:=kp S _ nS hS
   have upd1:∀(h2:Heap) (y:Addr) (o:Obj),y≠S->h2.get? y=some o->∀f,(h2.update S f).get? y=some o:=λh2 y o z q f=>(jc _ _ (Ne.symm z)).trans q
   have go:∀(b2:Option Int) (bs2:Array Value) (h2:Heap) (tk2:Nat) (c2:Nat),MdB bs2 b2->mdI b2 ns=mdI b (n::ns)->h2.get? S=some {cls:=.type "list",dict:=none,data:=.seq bs2 c2,slots:=#[]} ->
     (∀x o,x≠S->h1.get? x=some o->h2.get? x=some o)->codeAny (model prog w) A (.builtin "min.loop" ⟨[.ref i0,.none,.ref S],[("default",d)]⟩) R {s with heap:=h2,toks:=tk2}:=λb2 bs2 h2 tk2 c2 q1 q2 q3 q4=>by
    have st2:=W.frame _ h1 h2 st λx hx o q=>q4 x o (λz=>by
     rcases zm.mp hx with rfl | hx
     ·exact n2 z.symm
     ·rcases zm.mp hx with rfl | hx
      ·exact n3 z.symm
      ·cases hx) q
    refine ih ns (pre++[Value.int n tu]) b2 bs2 _ c2 e' rus (by rw[ze];exact st2.1) st2.2 q1 q3 λv h3 tk3 z1 z2=>?_
    exact hR v h3 tk3 (q2 ▸ z1) λx o y1 y2 q=>z2 x o y1 y2 (q4 x o y2 (kp x o (ni x y1) q))
   cases b with
   |none =>
    have hb':bs = #[]:=hb;subst hb';show wpAny _ A.in1 (updateSeq S (λ_=>#[Value.int n tu,Value.int n tu]) >>= _) _ _ _;refine za ?_;refine je hS1 rfl ?_;rw[nm];exact zc ⟨plainId_quiet PySem.F.plain_min_loop _,go (some n) _ _ _ _ ⟨tu,rfl⟩ rfl (Heap.get?_update_self _ hS1 rfl) λx o z q=>upd1 _ x o z q _⟩
   |some m =>
    obtain⟨t,hb'⟩:=hb;subst hb';show wpAny _ A.in1 (tryCatch (holding [Value.int n tu,Value.int n tu] (richCompare .Lt (.int n tu) (.int m t) >>= _)) _ >>= _) _ _ _;refine za (wpAny_tryCatch (zT (za (Vy ?_))));refine za (zT (wpAny_truthy_bool ?_));refine za (wpAny_letGo (zc ?_))
    by_cases hlt:n<m
    ·rw[zz hlt];simp only[if_true];refine za ?_;refine je hS1 rfl (za (wpAny_letGo ?_));rw[nm];exact zc ⟨plainId_quiet PySem.F.plain_min_loop _,go (some n) _ _ _ _ ⟨tu,rfl⟩ (by show _=mdI (some (if n<m then n else m)) ns;rw[if_pos hlt]) (Heap.get?_update_self _ hS1 rfl) λx o z q=>upd1 _ x o z q _⟩
    ·rw[zo hlt];simp only[Bool.false_eq_true,if_false];refine za (wpAny_letGo ?_);rw[nm];exact zc ⟨plainId_quiet PySem.F.plain_min_loop _,go (some m) _ _ _ _ ⟨t,rfl⟩ (by show _=mdI (some (if n<m then n else m)) ns;rw[if_neg hlt]) hS1 λx o z q=>q⟩
end
section
variable {X:Cx}{md:List Md}{P:Pt}{R:RR}
def tsF(n:Nat)(y:D)(O:ao):Res D:=match qD y,O[n]? with
 |some k,some (.dt kvs)=>match gK kvs k with
  |some d=>.ok d O
  |none=>.no
 | _,_=>.no
def HF(mo my:M D):M D:=λρ O=>(mo ρ O).bind λx O1=>match x with
 | .ob n=>(my ρ O1).bind λy O2=>tsF n y O2
 | _=>.no
theorem VB{kk:Nat}(hk:bM X.K=true)(hr:bG kk X.A){o i:Expr}{pos:Pos}{mo my:M D}(ho:VE X md P o mo)(hi:VE X md P i my)(hs:sZ i:=by intro _ _;rfl):VE X md P (.Subscript o i pos) (HF mo my):=
 (Ga (xf hr) ho hi hs).imp λσ H Q q=>by
  obtain⟨ρ,O,F,as,d,O',r,s,e,k⟩:=q;obtain⟨x,O1,e1,e⟩:=Res.bind_ok e
  cases x with
  |ob n =>
   obtain⟨y,O2,e2,e⟩:=Res.bind_ok e;unfold tsF at e;split at e
   ·rename_i ks kvs e3 e4;split at e
    ·rename_i d' e5;cases e;refine⟨ρ,_,F,as,_,_,r,s,e1,λx H1 F1 as1 g1 r1 hx=>⟨ρ,_,F1,as1,_,_,r1,s.step g1,e2,λu H2 F2 as2 g2 r2 hu=>?_⟩⟩;obtain⟨a,rfl,ha⟩:=Rp.unO hx;obtain⟨xs,x1,x2⟩:=r2.dt (g2.at_ n a ha) e4;obtain⟨b,rfl,hb⟩:=Rp.tkey hk hu e3
     rcases x2.val (k:=ks) with⟨z1,z2⟩ | ⟨d2,v',z1,z2,z3⟩
     ·rw[z1] at e5;cases e5
     ·rw[z1] at e5;cases e5;refine⟨a,v',rfl,?_,k _ H2 F2 as2 (g1.trans g2) r2 z3⟩;rw[<-z2];exact nD.t x1 (r2.fh _ _ hb)
    ·cases e
   ·cases e
  | _=>cases e
def ur:List D->Option D
 | [.lst ds]=>(gJ ds).map λns=>match mdI none ns with
  |some m=>.int m
  |none=>.non
 | _=>none
theorem VD(a d:Value):argsOk "min" ⟨[a],[("default",d)]⟩:=by unfold argsOk;kernel_rfl
theorem VF(hc:X.calm=true){pins:List (Addr×Obj)}{s:Shared}{σ:St}{H:Hp}{a:Addr}{ns:List Int}{Q:VK}(I:Inv X pins σ H s)(hq:SqL X.K H a (ns.map V.int))(q:Q (match mdI none ns with | some m=>.int m | none=>.non) H):
  wpAny (model X.prog X.w) X.A (call (.builtin "min") [.ref a] [("default",.none)]) (EP X pins σ Q) X.xe s:=by
 obtain⟨its,rv,pl,_⟩:=I.list hq;have hl:=pl.isList
 have la:a<s.heap.objs.size:=by obtain⟨_,z,_⟩:=hl;exact zf z
 refine Vx PySem.F.kind_min PySem.F.plain_min PySem.F.entry_min (VD _ _) ?_;show wpAny _ X.A.in1 (Builtin.Builtins.bindParams "min" ["key","default"] 0 ⟨[],[("default",.none)]⟩ >>= _) _ _ s;refine za (wpAny_of_eq (show _=pure [none,some Value.none] from rfl) ?_);refine za (zc ?_);refine za (wpAny_pyIter_list hl ?_);refine za (wpAny_newObj_type ?_);rw[show(toString "min" ++ toString ".loop":String) = "min.loop" by decide];have sz:(s.heap.push {cls:=.type "list_iterator",data:=.fields #[.ref a,.int 0 0]}).objs.size=s.heap.objs.size+1:=Heap.size_push ..
 refine zc ⟨plainId_quiet PySem.F.plain_min_loop _,Vz (its:=its) (l:=a) (i0:=s.heap.objs.size) (d:=.none) (I.ok.hd hc) (zB la) (Nat.ne_of_gt (by rw[sz];exact jg _)) (Nat.ne_of_gt (by rw[sz];exact jj la)) its ns [] none #[] _ 0 rfl rv
  ⟨_,zu _ (zH _ rfl),rfl,rfl⟩ ((hl.push _).push _) rfl (zH _ rfl) λv h1 tk hv kp=>?_⟩
 have kk:∀b o,s.heap.get? b=some o->h1.get? b=some o:=λb o z=>kp b o (zB (zf z)) (zB (by rw[sz];exact jj (zf z))) (zu _ (zu _ z))
 refine⟨_,H,I.kept (t':=tk) kk,?_,q⟩
 cases e:mdI none ns with
 |none =>
  rw[e] at hv;exact hv
 |some m =>
  rw[e] at hv;exact hv
theorem VH{p pos p2 p3:Pos}{j:Nat}{e:Expr}{m:M D}(hc:X.calm=true)(hm:X.mg "min" = none)(ha:SE X md P e m)(hg:Gl X "min":=by rfl)(hs:starEach [e] X.env=(false,eval e X.env)::starEach [] X.env:=by exact cD rfl)(hpl:(backTo pos (starEach [e] X.env)).any (·.1)=false:=by exact eO rfl)
  (he:backTo pos (starEach [e] X.env)=(false,eval e X.env)::backTo pos (starEach [] X.env):=by rfl):
  OE X md P (.Call (.Name "min" p) [e] [⟨some "default",.Constant .none j p2,p3⟩] pos) (aX ur (ak m au)):=by
 intro pins s σ H Q I q;refine wpAny_Call_Name_kw (gW I hg hm boot_min ?_ (by decide) (by decide));have q':=t7 (ms:=[.s]) q;refine callWith_kw (thn ((aD ha aH hs) pos pins s σ H _ I q') λus s1 ⟨vs,H1,I1,r1,q1⟩=>?_) he hpl;refine kws_cons (Constant_none (kws_nil ?_));obtain⟨O,F,as,ds,d,r,hvs,e,k⟩:=q1;unfold ur at e;split at e
 ·rename_i es;obtain⟨v,rfl,hv⟩:=hvs.one;obtain⟨a,xs,rfl,h1,h2⟩:=hv.list r.fh;obtain⟨u,rfl,ru⟩:=vals1 r1;cases ru
  cases hi:gJ es with
  |none=>rw[hi] at e;cases e
  |some ns =>
   rw[hi] at e;cases e;have hx:=h2.ints hi;refine VF hc I1 (ns:=ns) (by rw[<-hx];exact h1.sq) ?_
   cases em:mdI none ns with
   |none =>
    dsimp only at k;rw[em] at k;exact cA r k rfl Rp.non
   |some m =>
    dsimp only at k;rw[em] at k;exact cA r k rfl Rp.int
 ·cases e
end
def Itd(lo:Int)(n:Nat):It:=⟨λi _=>i<n,λi H x H'=>H'=H/\x=.int (lo - i),λi _=>n<=i⟩
def iW(lo:Int)(n:Nat):List D:=(List.range n).map λi:Nat=>.int (lo - i)
theorem VJ{P:Program}{w:World}{K:PySem.W.Frag}{tg:Expr}(it:Addr)(lo:Int)(n:Nat):Turn P w K tg (Itd lo n) [it] it (λi h=>IsRangeIter h it (lo+(i:Nat) * (-1)) ((n:Int) - (i:Nat)) (-1)) where
 mem:=by simp
 obj:=λi h st b hb=>by
  have e:b=it:=by simpa using hb
  subst e
  exact⟨_,st,λv z=>by
   have z':Data.fields _=Data.cell v:=z
   cases z'⟩
 keep:=λi h h' st k=>k it (by simp) _ st
 item:=by
  intro X hP hw hK hc i pins s σ H E I hf st hg;subst hP hw hK;obtain⟨f0,f1,f2,f3,f4,f5⟩:=hf it (by simp);have W:=Walks.range (prog:=X.prog) (w:=X.w) (I.ok.hd hc) it lo (-1) n
  refine W.item i s _ _ hg st λv h' tk hv st' kk=>?_
  obtain⟨t,rfl⟩:=hv;have I1:Inv X pins σ H {s with heap:=h',toks:=tk}:=I.turned (λb o hb e=>kk b o (by simpa using hb) e) f0 f1 f3 f4 f5;refine⟨_,rfl,nA (s:={s with heap:=h',toks:=tk}) (n:="range_iterator") st' rfl rfl (by decide) ⟨.int (lo - i),H,I1,⟨t,?_⟩,⟨rfl,rfl⟩,st',λb hb=>(hf b hb).1⟩⟩;rw[show lo+(i:Int) * (-1)=lo - i by omega]
 done:=by
  intro X hP hw hK hc i pins s σ H E I hf st hg;subst hP hw hK;obtain⟨f0,f1,f2,f3,f4,f5⟩:=hf it (by simp)
  exact wpAny_pyNext_range_end (I.ok.hd hc) st (by have:n<=i:=hg;omega) λh' eb=>⟨rfl,I.turned (t':=s.toks) (λb o hb e=>eb b o hb e) f0 f1 f3 f4 f5⟩
 self:=λ_ _ _ _ _ st h=>wpAny_pyIter_rangeiter st h
section
variable {X:Cx}{tg:Expr}{md:List Md}{P:Pt}
theorem HH(a b:Int):Builtin.Range.rangeSize a b (-1)=if a>b then a - b else 0:=by
 unfold Builtin.Range.rangeSize;rw[if_neg (by decide)]
 split
 ·rw[show(-(-1:Int))=1 by decide,Int.ediv_one];omega
 ·rfl
theorem small_down{a b:Int}(ha:-(2 ^ 62)<=a)(ha':a<2 ^ 62)(hb:-(2 ^ 62)<=b)(hb':b<2 ^ 62):Builtin.Range.small a b (-1)=true:=by
 unfold Builtin.Range.small;rw[HH];simp only[Builtin.Range.rangeFitsLong,zn,Bool.or_eq_true,decide_eq_true_eq,beq_iff_eq,show ¬((-1:Int)>0) by decide,if_false]
 split<;>omega
def VL(ta:TA):TI:=λσ H R=>ta σ H λvs H1=>∃i j:Int,vs=[.int i,.int j,.int (-1)]/\(-(2 ^ 62)<=i/\i<2 ^ 62/\-(2 ^ 62)<=j/\j<2 ^ 62)/\R (Itd i (i - j).toNat) H1
theorem VM{a b c:Expr}{ta:TA}{p pos:Pos}(hg:Gl X "range")(hm:X.mg "range" = none)(ha:PA X [a,b,c] ta)(hs:starEach [a,b,c] X.env=[(false,eval a X.env),(false,eval b X.env),(false,eval c X.env)]:=by rfl)(hs2:starEach [b,c] X.env=[(false,eval b X.env),(false,eval c X.env)]:=by rfl):
  PI X tg (.Call (.Name "range" p) [a,b,c] [] pos) (VL ta):=by
 intro pins s σ H R I h;refine Call_ (gW I hg hm boot_range (PyProof.Rows.callWith_type1 (thn (ha pos pins s σ H _ I h) λus s1 ⟨vs,H1,I1,r1,q1⟩=>?_) (by rw[hs,hs2]) (by rw[hs2];rfl)));obtain⟨lo,hi,e,⟨h1,h2,h3,h4⟩,q⟩:=q1;subst e
 cases r1 with
 |cons r rr =>
  cases rr with
  |cons r' rr =>
   cases rr with
   |cons r'' rr =>
    cases rr;obtain⟨t,rfl⟩:=r;obtain⟨u,rfl⟩:=r';obtain⟨v,rfl⟩:=r'';refine call_range_3 (by decide) ?_ (Or.inl (PyProof.noPylong_small (by omega)));refine wpAny_pyIter_range (IsRange.new ..) (small_down h1 h2 h3 h4) ?_
    have J:Inv X pins σ H1 {s1 with heap:=s1.heap.push {cls:=.type "range",data:=.fields #[.int lo t,.int hi u,.int (-1) v]},toks:=s1.toks}:=I1.kept λb o e=>zu _ e
    refine⟨(s1.heap.push {cls:=.type "range",data:=.fields #[.int lo t,.int hi u,.int (-1) v]}).objs.size,[(s1.heap.push {cls:=.type "range",data:=.fields #[.int lo t,.int hi u,.int (-1) v]}).objs.size],_,_,H1,rfl,
     J.kept (t':=s1.toks) λb o e=>zu _ e,VJ _ lo (lo - hi).toNat,?_,λb hb=>?_,q⟩
    ·have e1:lo+((0:Nat):Int) * (-1)=lo:=by simp
     have e2:(((lo - hi).toNat:Nat):Int) - ((0:Nat):Int)=Builtin.Range.rangeSize lo hi (-1):=by rw[HH];split<;>omega
     show IsRangeIter _ _ (lo+((0:Nat):Int) * (-1)) ((((lo - hi).toNat:Nat):Int) - ((0:Nat):Int)) (-1);rw[e1,e2];exact zH _ rfl
    ·have e:b=(s1.heap.push {cls:=.type "range",data:=.fields #[.int lo t,.int hi u,.int (-1) v]}).objs.size:=by simpa using hb
     subst e;exact J.fpOk (zb _) (J.hok.fresh (zb _))
theorem VN{K:Frag}{mg:Str->Option Value}{lo:Int}{n:Nat}{H F:Hp}{as:List Addr}:lr K mg P (Itd lo n) (iW lo n) H F as:=yc (λi d H2 e=>by
 unfold iW at e;rw[zl] at e
 by_cases hi:i<n
 ·rw[List.getElem?_range hi] at e;cases e;refine⟨hi,λx H3 y=>?_⟩;obtain⟨e1,rfl⟩:=y;exact⟨e1,λ_ _ _=>Rp.int⟩
 ·rw[zV (by simpa using hi)] at e
  cases e) λH2=>by simp[iW,Itd]
def uv(m:M (List D)):M (List D):=λρ O=>(m ρ O).bind λds O1=>match ds with
 | [.int i,.int j,.int c]=>if c = -1/\i<=1000000000/\-1000000000<=i/\j<=1000000000/\-1000000000<=j then .ok (iW i (i - j).toNat) O1 else .no
 | _=>.no
theorem cW.three{K:Frag}{H F:Hp}{as:List Addr}{m1 m2 m3:Md}{vs:List V}{d e f:D}(h:cW K H F as [m1,m2,m3] vs [d,e,f]):∃v u z,vs=[v,u,z]/\rA K m1 (λ_=>True) H F as v d/\rA K m2 (λ_=>True) H F as u e/\rA K m3 (λ_=>True) H F as z f:=by
 cases vs with
 |nil=>exact h.elim
 |cons v vs =>
  obtain⟨h1,h2⟩:=h;obtain⟨u,z,rfl,h3,h4⟩:=cW.two h2;exact⟨v,u,z,rfl,h1,h3,h4⟩
theorem VP{a b c:Expr}{p pos:Pos}{m:M (List D)}(hm:X.mg "range" = none)(ha:AE X md P [.s,.s,.s] [a,b,c] m)(hg:Gl X "range":=by rfl)(hs:starEach [a,b,c] X.env=[(false,eval a X.env),(false,eval b X.env),(false,eval c X.env)]:=by rfl)(hs2:starEach [b,c] X.env=[(false,eval b X.env),(false,eval c X.env)]:=by rfl):
  VI X md P tg (.Call (.Name "range" p) [a,b,c] [] pos) (uv m):=(VM hg hm ha hs hs2).imp λσ H Q q=>by
 obtain⟨ρ,O,F,as,ds,O',r,s,e,k⟩:=q;obtain⟨es,O1,e1,e⟩:=Res.bind_ok e;split at e
 ·rename_i i j c;split at e
  ·rename_i hj;cases e;obtain⟨rfl,hj⟩:=hj;refine⟨ρ,_,F,as,_,_,r,s,e1,λvs H1 F1 as1 g1 r1 hv=>?_⟩;obtain⟨v,u,z,rfl,hv1,hu,hz⟩:=hv.three;have e3:=(Sv.rp hv1 rfl).unI;have e4:=(Sv.rp hu rfl).unI;have e5:=(Sv.rp hz rfl).unI;subst e3 e4 e5;exact⟨i,j,rfl,⟨by omega,by omega,by omega,by omega⟩,k _ H1 F1 as1 g1 r1 VN⟩
  ·cases e
 ·cases e
end
section
variable {X:Cx}{pins:List (Addr×Obj)}{σ:List (Option V)}{H:Hp}{s:Shared}{a:Addr}{xs:List (List Key×V)}{o:Obj}
theorem Inv.reword{u:HO}(I:Inv X pins σ H s)(ha:H a≠none)(hn:∀ys,H a≠some (.tup ys))(ho:∀y,H a≠some (.own y))(hb:∀ps,H a≠some (.tbl ps))(hf:∀o u,X.H₀ a≠some (.frz o u))(new:cG X.prog X.w (upd H a u) s.heap a u):Inv X pins σ (upd H a u) s where
 ok:=I.ok
 os:=I.os
 bare:=I.bare
 base:={
  keep:=I.base.keep
  slot:=I.base.slot
  free:=λb o' q n hx=>by
   have z:=I.base.free b o' q n hx;rw[aK (by intro e;have w:=z;rw[e] at w;exact ha w)];exact z
  there:=I.base.there
  tups:=λb ys q=>by
   have z:=I.base.tups b ys q;rw[aK (by intro e;have w:=z;rw[e] at w;exact hn ys w)];exact z
  frzs:=λb o' u' q=>by
   have z:=I.base.frzs b o' u' q;rw[aK (by intro e;have w:=q;rw[e] at w;exact hf o' u' w)];exact z
  tbls:=λb ps q=>by
   obtain⟨m,z⟩:=I.base.tbls b ps q
   exact⟨m,by rw[aK (by intro e;have w:=z;rw[e] at w;exact hb _ w)];exact z⟩}
 loc:=I.loc
 cell:=I.cell
 free:=by rw[aK (by intro e;have w:=I.free;rw[e] at w;exact ha w)];exact I.free
 freeC:=λx c q=>by rw[aK (by intro e;have w:=I.freeC x c q;rw[e] at w;exact ha w)];exact I.freeC x c q
 pin:=λp hp=>by
  obtain⟨h1,h2,h3,h4,h5⟩:=I.pin p hp;exact⟨h1,by rw[aK (by intro e;have w:=h2;rw[e] at w;exact ha w)];exact h2,h3,h4,h5⟩
 hok:=λb u' q=>by
  by_cases e:b=a
  ·subst e;rw[bJ] at q;cases q;exact new
  ·rw[aK e] at q
   exact(I.hok b u' q).stay (λ_ _ _ z=>z) (λc z=>by rw[aK (by intro e;have w:=z;rw[e] at w;exact ho b w)];exact z) λc ys z=>by rw[aK (by intro e;have w:=z;rw[e] at w;exact hn ys w)];exact z
 len:=I.len
theorem Inv.base0(I:Inv X pins σ H s)(e:H a=some (.dT xs)):∀o u,X.H₀ a≠some (.frz o u):=λo u z=>by
 have:=I.base.frzs a o u z
 rw[e] at this;cases this
theorem Inv.freeze(I:Inv X pins σ H s)(e:H a=some (.dT xs)):∃o,s.heap.get? a=some o/\Inv X pins σ (upd H a (.frz o (.dT xs))) s:=by
 have hx:=I.hok a _ e
 obtain⟨o,ho⟩:∃u,s.heap.get? a=some u:=by
  obtain⟨_,_,_,_,_,_,_,z,_⟩:=hx;exact⟨_,z⟩
 refine⟨o,ho,I.reword (by rw[e];exact λz=>nomatch z) (by rw[e];exact λ_ z=>nomatch z) (by rw[e];exact λ_ z=>nomatch z) (by rw[e];exact λ_ z=>nomatch z) (I.base0 e) ⟨ho,?_⟩⟩
 exact cG.stay hx (λ_ _ _ z=>z) (λc z=>by rw[aK (λq=>by rw[q,e] at z;cases z)];exact z) λc ys z=>by rw[aK (λq=>by rw[q,e] at z;cases z)];exact z
theorem Inv.thaw(I:Inv X pins σ H s)(e:H a=some (.frz o (.dT xs)))(hf:∀o u,X.H₀ a≠some (.frz o u)):Inv X pins σ (upd H a (.dT xs)) s:=by
 obtain⟨ho,hx⟩:=(show cG X.prog X.w H s.heap a (.frz o (.dT xs)) from I.hok a _ e);refine I.reword (by rw[e];exact λz=>nomatch z) (by rw[e];exact λ_ z=>nomatch z) (by rw[e];exact λ_ z=>nomatch z) (by rw[e];exact λ_ z=>nomatch z) hf ?_
 exact cG.stay hx (λ_ _ _ z=>z) (λc z=>by rw[aK (λq=>by rw[q,e] at z;cases z)];exact z) λc ys z=>by rw[aK (λq=>by rw[q,e] at z;cases z)];exact z
end
section
variable {prog:Program}{w:World}{A:Around}{E:Value->Shared->Prop}{s:Shared}
theorem VR{d:Addr}{o:Obj}{es:Array DictEntry}{ep:Nat}{Q:Value->Shared->Prop}(hd:(d == sysModules)=false)(ho:s.heap.get? d=some o)(hx:o.ExactDict)(hdat:o.data=.dict es ep)
  (hQ:Q (.ref s.heap.objs.size) {s with heap:=s.heap.push {cls:=.type "dict_keyiterator",data:=.fields #[.ref d,.int 0 0,.int es.size 0,.int ep 0]}}):
  wpAny (model prog w) A (pyIter (.ref d)) Q E s:=by
 have hT:s.TypeIs (.ref d) "dict":=⟨o,ho,hx.1⟩;refine wpAny_pyIter_slot hT PySem.F.slot_dict_iter (wpAny_call_entry PySem.F.slot_dict_iter hT PySem.F.entry_dict_iter ?_ (PySem.F.args_dict_iter_1 _));unfold Builtin.«dict.__iter__»;refine za ?_;unfold Builtin.Dict.dictSlotNone;refine za (wpAny_notOrdered_dict hT ?_);show wpAny _ _ (pure (Value.ref d)) _ _ s;refine zc ?_;show wpAny _ _ (Builtin.Dict.showsAll d >>= _) _ _ s;unfold Builtin.Dict.showsAll;rw[if_neg (by rw[hd];exact zk)];refine za (zc ?_);refine za (wpAny_dictEntries ho hdat ?_);refine za (wpAny_dictEpoch ho hdat ?_);refine za (wpAny_newObj_type (zc ⟨_,rfl,"dict_keyiterator",_,⟨_,zH _ rfl,rfl⟩,PySem.F.slot_dict_keyiterator_next.lookup,?_⟩))
 simpa [rawInt] using hQ
theorem V0{it d:Addr}{i n ep:Nat}{od:Obj}{es:Array DictEntry}{Q:Option Value->Shared->Prop}(hit:s.heap.IsKeyIter it d i n ep)(hod:s.heap.get? d=some od)(hdd:od.data=.dict es ep)(hsz:es.size=n)(hlt:i<n)
  (hQ:∀h',h'.IsKeyIter it d (i+1) n ep->Heap.SameBut it s.heap h'->Q (some (es[i]'(by omega)).key) {s with heap:=h'}):
  wpAny (model prog w) A (pyNext (.ref it)) Q E s:=by
 obtain⟨o,ho,hc,hd⟩:=id hit;unfold pyNext
 refine za (wpAny_attempt (wpAny_callSpecial?_slot (name:=Str.ofString "__next__") hit.typeIs PySem.F.slot_dict_keyiterator_next
  (wpAny_call_entry PySem.F.slot_dict_keyiterator_next hit.typeIs PySem.F.entry_dict_keyiterator_next ?_ (PySem.F.args_dict_keyiterator_next_1 _))))
 refine za (zc ?_);refine za ?_;refine za ?_
 first | refine za (wpAny_typeNameOfWhole_keyiter hit.typeIs (zc ?_)) | refine za (wpAny_typeNameOf_keyiter hit.typeIs (zc ?_))
 refine za (wpAny_fieldsOf ho hd ?_)
 have hown:Builtin.Dict_items.ownsTuple "dict_keyiterator" = false:=by decide
 simp only[hown,Bool.false_eq_true,if_false];show wpAny _ _ (if(Value.ref d == Value.none)=true then _ else _) _ _ s;rw[if_neg (show ¬((Value.ref d == Value.none)=true) from zk)];refine za (zc ?_);refine za (wpAny_dictEntries hod hdd ?_);rw[if_neg (by rw[hsz];simp)];refine za (zc ?_);refine za (wpAny_dictEpoch hod hdd ?_);rw[if_neg (by simp)];refine zc ?_
 have hlt':i<es.size:=by rw[hsz];exact hlt
 simp only[show ¬((i:Int)<0) from by omega,if_false,Int.toNat_natCast,Array.getElem?_eq_getElem hlt'];refine za ?_
 first | refine za (wpAny_typeNameOfWhole_keyiter hit.typeIs (zc ?_)) | refine za (wpAny_typeNameOf_keyiter hit.typeIs (zc ?_))
 refine za (wpAny_isOneOf_keyiter hit.typeIs ?_);show wpAny _ _ (setField (.ref it) 1 (rawInt ((i:Int)+1)) >>= _) _ _ s;refine za (wpAny_setField ho hd (by simp) ?_);have hit':(s.heap.update it (Obj.mapFields (·.setIfInBounds 1 (rawInt ((i:Int)+1))))).IsKeyIter it d (i+1) n ep :=
  ⟨_,Heap.get?_update_self _ ho (Obj.isFreed_of_fields (Obj.data_mapFields hd _)),(Obj.cls_mapFields ..).trans hc,by rw[Obj.data_mapFields hd];simp[rawInt]⟩
 refine za (zT ?_);refine za (wpAny_isOneOf_keyiter (s:={s with heap:=s.heap.update it (Obj.mapFields (·.setIfInBounds 1 (rawInt ((i:Int)+1))))}) hit'.typeIs ?_);show wpAny _ _ (pure es[i].key) _ _ _;exact zc (zc ⟨_,rfl,zc (hQ _ hit' (Heap.SameBut.update ..))⟩)
theorem V2{it d:Addr}{i n ep:Nat}{od:Obj}{es:Array DictEntry}{Q:Option Value->Shared->Prop}(hh:A.handled=none)(hit:s.heap.IsKeyIter it d i n ep)(hod:s.heap.get? d=some od)(hdd:od.data=.dict es ep)(hsz:es.size=n)(hge:n<=i)
  (hQ:∀h',Heap.ExtBut it s.heap h'->Q none {s with heap:=h'}):wpAny (model prog w) A (pyNext (.ref it)) Q E s:=by
 obtain⟨o,ho,hc,hd⟩:=id hit;unfold pyNext
 refine za (wpAny_attempt (wpAny_callSpecial?_slot (name:=Str.ofString "__next__") hit.typeIs PySem.F.slot_dict_keyiterator_next
  (wpAny_call_entry PySem.F.slot_dict_keyiterator_next hit.typeIs PySem.F.entry_dict_keyiterator_next ?_ (PySem.F.args_dict_keyiterator_next_1 _))))
 refine za (zc ?_);refine za ?_;refine za ?_
 first | refine za (wpAny_typeNameOfWhole_keyiter hit.typeIs (zc ?_)) | refine za (wpAny_typeNameOf_keyiter hit.typeIs (zc ?_))
 refine za (wpAny_fieldsOf ho hd ?_)
 have hown:Builtin.Dict_items.ownsTuple "dict_keyiterator" = false:=by decide
 simp only[hown,Bool.false_eq_true,if_false];show wpAny _ _ (if(Value.ref d == Value.none)=true then _ else _) _ _ s;rw[if_neg (show ¬((Value.ref d == Value.none)=true) from zk)];refine za (zc ?_);refine za (wpAny_dictEntries hod hdd ?_);rw[if_neg (by rw[hsz];simp)];refine za (zc ?_);refine za (wpAny_dictEpoch hod hdd ?_);rw[if_neg (by simp)];refine zc ?_
 have hge':es.size<=i:=by rw[hsz];exact hge
 simp only[show ¬((i:Int)<0) from by omega,if_false,Int.toNat_natCast,Array.getElem?_eq_none hge'];refine za ?_
 first | refine za (wpAny_typeNameOfWhole_keyiter hit.typeIs (zc ?_)) | refine za (wpAny_typeNameOf_keyiter hit.typeIs (zc ?_))
 show wpAny _ _ (setField (.ref it) 0 .none >>= _) _ _ s;refine za (wpAny_setField ho hd (by simp) ?_);show wpAny _ _ (newExc (.type "StopIteration") [] >>= _) _ _ _;refine za ?_;simp only[newExc,newTuple];refine za (wpAny_newObj_type ?_ (by size_fits));refine za (m:=firstArgMember _ _) (wpAny_of_eq (a:=Value.none) (by first | rfl | (simp only[firstArgMember];rfl)) ?_);refine wpAny_newObj_type ?_ (by size_fits);simp only[raiseNew];refine za (wpAny_handled ?_);rw[show A.in1.handled=none from hh];refine za (zc (wpAny_throw ?_));refine za (wpAny_isInstance (T:="StopIteration") (b:=true) ⟨_,zH _ rfl,rfl⟩ isSubtype_stop ?_)
 exact zc (hQ _ (((Heap.SameBut.update ..).extBut.push _).push _))
end
def Itq(a:Addr)(o:Obj):It :=
 ⟨λi H=>∃ys:List (List Key×V),H a=some (.frz o (.dT ys))/\i<ys.length,
  λi H x H'=>H'=H/\∀ys:List (List Key×V),H a=some (.frz o (.dT ys))->∃b p,x=.ref b/\ys[i]?=some p/\H b=some (.tup (p.1.map kV)),
  λi H=>∃ys:List (List Key×V),H a=some (.frz o (.dT ys))/\ys.length<=i⟩
theorem V3{α β:Type}{R:α->β->Prop}{l:List α}{m:List β}(h:Paired R l m):∀{i:Nat}{x:α}{y:β},l[i]?=some x->m[i]?=some y->R x y:=by
 induction h with
 |nil=>intro i x y h;cases h
 |cons a b ih =>
  intro i x y h1 h2
  cases i with
  |zero=>cases h1;cases h2;exact a
  |succ i=>exact ih h1 h2
theorem yt{X:Cx}{pins:List (Addr×Obj)}{σ:St}{H:Hp}{s:Shared}{a:Addr}{o:Obj}{ys:List (List Key×V)}(I:Inv X pins σ H s)(e:H a=some (.frz o (.dT ys))):
  s.heap.get? a=some o/\(a == sysModules)=false/\o.ExactDict/\∃es ep,o.data=.dict es ep/\es.size=ys.length/\∀(i:Nat) (h:i<es.size),∃b p,es[i].key=.ref b/\ys[i]?=some p/\H b=some (.tup (p.1.map kV)):=by
 obtain⟨h1,z,y,xs,r,o',es,ep,h2,h3,h4,h5,h6⟩:=(show cG X.prog X.w H s.heap a (.frz o (.dT ys)) from I.hok a _ e);rw[h1] at h2;cases h2
 have hl:es.size=xs.length:=by rw[<-Array.length_toList,h5,zd]
 have hr:ys.length=xs.length:=r.length;refine⟨h1,y,h3,es,ep,h4,by omega,λi hi=>?_⟩
 have hx:i<xs.length:=by omega
 have hy:i<ys.length:=by omega
 have ek:es.toList[i]?=some (entryOfKey (tupleKind (fP X.prog X.w)) xs[i]):=by rw[h5,zl,zg hx];rfl
 rw[Array.getElem?_toList,Array.getElem?_eq_getElem hi] at ek;have hh:=V3 r (zg hy) (zg hx);refine⟨xs[i].2.1,ys[i],?_,zg hy,hh.2.1⟩
 injection ek with ek
 rw[ek];rfl
theorem V4{P:Program}{w:World}{K:Frag}{tg:Expr}(a it:Addr)(o:Obj)(es:Array DictEntry)(ep:Nat)(hd:o.data=.dict es ep):Turn P w K tg (Itq a o) [it] it (λi h=>h.IsKeyIter it a i es.size ep) where
 mem:=by simp
 obj:=λi h st b hb=>by
  have e:b=it:=by simpa using hb
  subst e;obtain⟨o,e,c,d⟩:=st;exact⟨o,e,λv z=>by rw[d] at z;cases z⟩
 keep:=λi h h' st k=>st.at λo e=>k it (by simp) o e
 item:=by
  intro X hP hw hK hc i pins s σ H E I hf st hg;subst hP hw hK;obtain⟨ys,hq,hlt⟩:=hg;obtain⟨q1,q2,q3,es',ep',q4,q5,q6⟩:=yt I hq;rw[hd] at q4;cases q4;obtain⟨f0,f1,f2,f3,f4,f5⟩:=hf it (by simp)
  have hi:i<es.size:=by omega
  refine V0 st q1 hd rfl hi λh' st' sb=>?_
  have I1:Inv X pins σ H {s with heap:=h'}:=I.turned (t':=s.toks) (λb o hb e=>(sb.2 b hb).trans e) f0 f1 f3 f4 f5;obtain⟨b,p,k1,k2,k3⟩:=q6 i hi;rw[k1];obtain⟨o2,e,c,d⟩:=id st';refine⟨_,rfl,nA (s:={s with heap:=h'}) e c d (by decide) ⟨.ref b,H,I1,rfl,⟨rfl,λzs hz=>?_⟩,st',λb hb=>(hf b hb).1⟩⟩;rw[hq] at hz;cases hz;exact⟨b,p,rfl,k2,k3⟩
 done:=by
  intro X hP hw hK hc i pins s σ H E I hf st hg;subst hP hw hK;obtain⟨ys,hq,hge⟩:=hg;obtain⟨q1,q2,q3,es',ep',q4,q5,q6⟩:=yt I hq;rw[hd] at q4;cases q4;obtain⟨f0,f1,f2,f3,f4,f5⟩:=hf it (by simp)
  exact V2 (I.ok.hd hc) st q1 hd rfl (by omega) λh' eb=>⟨rfl,I.turned (t':=s.toks) (λb o hb e=>eb b o hb e) f0 f1 f3 f4 f5⟩
 self:=λ_ _ _ _ _ st h=>wpAny_pyIter_keyiter st h
def V5(tl:TE):TI:=λσ H R=>tl σ H λx H1=>∃a xs,x=.ref a/\H1 a=some (.dT xs)/\∀o,R (Itq a o) (upd H1 a (.frz o (.dT xs)))
theorem V6{X:Cx}{tg l:Expr}{tl:TE}(hl:PE X l tl):PI X tg l (V5 tl):=by
 intro pins s σ H R I h
 refine thn (hl pins s σ H _ I h) λv s1 ⟨x,H1,I1,r1,q1⟩=>?_
 obtain⟨a,xs,e,hq,q⟩:=q1;subst e;cases r1;obtain⟨o,ho,I2⟩:=I1.freeze hq;obtain⟨q1,q2,q3,es,ep,q4,q5,q6⟩:=yt I2 bJ;refine VR q2 q1 q3 q4 ?_;refine⟨s1.heap.objs.size,[s1.heap.objs.size],_,_,upd H1 a (.frz o (.dT xs)),rfl,I2.kept (t':=s1.toks) λb o e=>zu _ e,V4 a _ o es ep q4,⟨_,zH _ rfl,rfl,rfl⟩,λb hb=>?_,q o⟩
 have e:b=s1.heap.objs.size:=by simpa using hb
 subst e;exact I2.fpOk (zb _) (I2.hok.fresh (zb _))
section
variable {K:Frag}{mg:Str->Option Value}{O:ao}{H F:Hp}{as:List Addr}
theorem Gr.tupF{b:Addr}{xs:List V}(hb:H b=some (.tup xs))(hf:F b=none):Gr H F as H (upd F b (.tup xs)) as :=
 ⟨λa o e _ hd=>aK (λz=>by rw[z,hb] at e;cases e;cases hd),λa u e=>by rw[aK (bT e hf)];exact e,⟨[],by simp,λ_ h=>nomatch h⟩,λ_ _ h _ _=>h,λ_ h=>h,λ_ _ _ h=>h⟩
theorem RlO.noT{b:Addr}{xs:List V}(r:RlO K mg O H F as)(hb:H b=some (.tup xs)):b∉as:=λhm=>by
 obtain⟨n,hn,e⟩:=List.mem_iff_getElem.mp hm
 have hO:n<O.length:=by rw[<-r.len];exact hn
 have q:=r.ob n b O[n] (by rw[zg hn,e]) (zg hO)
 revert q
 cases O[n] with
 |ins c fs=>rintro⟨C,dx,gs,_,h2,_⟩;rw[hb] at h2;cases h2
 |ml ds=>rintro⟨xs,h1,_⟩;rw[hb] at h1;cases h1
 |dt kvs=>rintro⟨xs,h1,_⟩;rw[hb] at h1;cases h1
 |df kvs=>rintro⟨o,xs,h1,_⟩;rw[hb] at h1;cases h1
theorem yu:∀ks:List Key,Rps K F as (ks.map kV) (ks.map tR)
 | []=>Rps.nil
 | .inl i::ks=>Rps.cons (show Rp K F as (.int i) (.int i) from rfl) (yu ks)
 | .inr x::ks=>Rps.cons (show Rp K F as (.str x) (.str x.cps.toList) from by
   show V.str x=V.str (S x.cps.toList)
   rw[show S x.cps.toList=x by cases x;simp[S]]) (yu ks)
theorem RlO.df{n:Nat}{a:Addr}{kvs:List (List Key×D)}(r:RlO K mg O H F as)(hn:as[n]?=some a)(hO:O[n]?=some (.df kvs)):∃o xs,H a=some (.frz o (.dT xs))/\DtR K F as xs kvs:=let ⟨o,xs,h1,h2,h3⟩:=r.ob n a _ hn hO;⟨o,xs,h1,h2,h3⟩
end
section
variable {X:Cx}{md:List Md}{P:Pt}{R:RR}
def yw(p:List Key×D):D:=.tup (p.1.map tR)
def oE(m:M D):M (List D):=λρ O=>(m ρ O).bind λd O1=>match d with
 | .ob n=>match O1[n]? with
  |some (.dt kvs)=>.ok (kvs.map yw) (O1.set n (.df kvs))
  | _=>.no
 | _=>.no
theorem V7{tg e:Expr}{m:M D}(h:VE X md P e m):VI X md P tg e (oE m):=(V6 h).imp λσ H Q q=>by
 obtain⟨ρ,O,F,as,ds,O',r,s,e,k⟩:=q;obtain⟨d,O1,e1,e⟩:=Res.bind_ok e;split at e
 ·rename_i n;split at e
  ·rename_i kvs e2;cases e;refine⟨ρ,_,F,as,_,_,r,s,e1,λv H1 F1 as1 g1 r1 hv=>?_⟩;obtain⟨a,rfl,ha⟩:=Rp.unO hv;obtain⟨xs,x1,x2⟩:=r1.dt ha e2;refine⟨a,xs,rfl,x1,λo=>k (Itq a o) (upd H1 a (.frz o (.dT xs))) F1 as1 (g1.trans (uh (zy ha) x1)) (r1.mutG ha ⟨o,xs,bJ,x2.1,x2.2⟩) ⟨λi d H2 F2 as2 g2 r2 hd=>?_,λH2 F2 as2 g2 r2=>?_⟩⟩
   ·have hz:=g2.kz a o _ bJ
    have hi:i<kvs.length:=by have:=(zh.mp hd).1;rwa [zd] at this
    have hi':i<xs.length:=by rw[x2.len];exact hi
    refine⟨⟨xs,hz,hi'⟩,λx H3 y=>?_⟩;obtain⟨rfl,hy⟩:=y;obtain⟨b,p,rfl,hp,hb⟩:=hy xs hz
    have hk:p.1=kvs[i].1:=by
     have h1:(xs.map (·.1))[i]?=some p.1:=by rw[zl,hp];rfl
     rw[x2.1,zl,zg hi] at h1
     injection h1 with h1
     exact h1.symm
    rw[zl,zg hi] at hd
    injection hd with hd
    subst hd
    have fin:∀F3:Hp,F3 b=some (.tup (p.1.map kV))->Rp X.K F3 as2 (.ref b) (yw kvs[i]):=λF3 h3=>⟨b,_,rfl,.inl h3,by rw[<-hk];exact yu p.1⟩
    cases hF:F2 b with
    |some u =>
     obtain⟨O2,r2'⟩:=r2
     have:=r2'.fh b u hF
     rw[hb] at this;cases this;exact⟨F2,Gr.refl,λ_ r=>r,fin F2 hF⟩
    |none=>exact⟨upd F2 b (.tup (p.1.map kV)),Gr.tupF hb hF,λ_ r=>r.frz hb hF (r.noT hb) rfl,fin _ bJ⟩
   ·exact⟨xs,g2.kz a o _ bJ,by rw[zd,x2.len];exact zb _⟩
  ·cases e
 ·cases e
end
def oF(i:Nat)(ms:MS):MS:=λρ O=>match ρ[i]? with
 |some (some (.ob n))=>match O[n]? with
  |some (.dt _)=>match ms ρ O with
   | .nx ρ2 O2=>match O2[n]? with
    |some (.df kvs)=>.nx ρ2 (O2.set n (.dt kvs))
    | _=>.no
   | _=>.no
  | _=>.no
 | _=>.no
section
variable {K:Frag}{mg:Str->Option Value}{md:List Md}{P:Pt}{ρ:az}{σ:St}{O:ao}{H F H' F':Hp}{as as':List Addr}
theorem iH.reH{m:Md}{v:V}{d:D}{a:Addr}{h:HO}(q:iH P K H F as m v d)(ha:a∈as):iH P K (upd H a h) F as m v d:=by
 cases m with
 |v=>exact q
 |s =>
  rcases q with q | ⟨c,xs,ds,e1,e2,e3,e4,e5,e6⟩
  ·exact .inl q
  ·exact .inr ⟨c,xs,ds,e1,e2,by rw[aK (λz=>e4 (by rw[z];exact ha))];exact e3,e4,e5,e6⟩
 |o =>
  rcases q with⟨h1,q⟩ | ⟨c,xs,ds,e1,e2,e3,e0,e4,e5,e6⟩
  ·exact .inl ⟨h1,q⟩
  ·exact .inr ⟨c,xs,ds,e1,e2,by rw[aK (λz=>e4 (by rw[z];exact ha))];exact e3,e0,e4,e5,e6⟩
theorem SlO.reH{a:Addr}{h:HO}(s:SlO K md P ρ σ H F as)(ha:a∈as):SlO K md P ρ σ (upd H a h) F as :=
 ⟨s.len,s.len',λc p z=>s.pd c p (by
  by_cases e:c=a
  ·rw[e,bJ] at z;cases z
  ·rwa [aK e] at z),λi m d e1 e2=>let ⟨v,q,r⟩:=s.sl i m d e1 e2;⟨v,q,r.reH ha⟩,s.inj,s.pin⟩
theorem SlO.obAt{i n:Nat}(s:SlO K md P ρ σ H F as)(e:ρ[i]?=some (some (.ob n))):∃a,as[n]?=some a:=by
 have hi:i<md.length:=by rw[<-s.len'];exact(zh.mp e).1
 obtain⟨v,_,q⟩:=s.sl i _ _ (zg hi) e
 have hr:Rp K F as v (.ob n):=by
  revert q
  cases md[i] with
  |v=>exact λq=>q
  |s =>
   rintro(q | ⟨a,xs,ds,_,z,_⟩)
   ·exact q
   ·cases z
  |o =>
   rintro(⟨_,q⟩ | ⟨a,xs,ds,_,z,_⟩)
   ·exact q
   ·cases z
 obtain⟨a,_,ha⟩:=Rp.unO hr;exact⟨a,ha⟩
theorem GrS.reH{a:Addr}{h:HO}{xs:List (List Key×V)}(g:GrS P H F as H' F' as')(ha:a∈as)(hx:H a=some (.dT xs)):GrS P H F as (upd H' a h) F' as' :=
 ⟨g.fz,g.ff,g.nw,λc o p e hn hd=>by rw[aK (λz=>hn (by rw[z];exact ha))];exact g.fr c o p e hn hd,λc e=>by
  by_cases z:c=a
  ·rw[z,bJ] at e;cases e
  ·rw[aK z] at e;exact g.dm c e,λc o u e=>by rw[aK (λz=>by rw[z,hx] at e;cases e)];exact g.kz c o u e⟩
end
section
variable {X:Cx}{md:List Md}{P:Pt}{R:RR}
theorem V8(i:Nat){st:Stmt}{ms:MS}(h:VS X md P R st ms):VS X md P R st (oF i ms):=λpins s σ H D I q=>by
 obtain⟨ρ,O,F,as,r,sl,k⟩:=q;unfold oF at k;split at k
 ·rename_i n e1;split at k
  ·rename_i kv0 e2;split at k
   ·rename_i ρ2 O2 e3;split at k
    ·rename_i kvs e4;obtain⟨a,ha⟩:=sl.obAt e1;obtain⟨xs0,x1,_⟩:=r.dt ha e2;have hf:=I.base0 x1
     refine thn (h pins s σ H {nx:=λσ' H'=>∃F' as',GrS P H F as H' F' as'/\RlO X.K X.mg O2 H' F' as'/\SlO X.K md P ρ2 σ' H' F' as',rt:=λ_ _=>False} I ⟨ρ,O,F,as,r,sl,by rw[e3];exact λσ' H' F' as' g r s=>⟨F',as',g,r,s⟩⟩) λf s' z=>?_
     cases f with
     |next =>
      obtain⟨σ',H',I',F',as',g,r',s2⟩:=z;have ha':=g.at_ n a ha;have hm':=zy ha';obtain⟨o,xs,y1,y2⟩:=r'.df ha' e4;exact⟨σ',_,I'.thaw y1 hf,k σ' _ F' as' (g.reH (zy ha) x1) (r'.mutG ha' ⟨xs,bJ,y2.1,y2.2⟩) (s2.reH hm')⟩
     |brk=>obtain⟨σ',H',_,z⟩:=z;exact z.elim
     |cont=>obtain⟨σ',H',_,z⟩:=z;exact z.elim
     |ret u=>obtain⟨v,σ',H',_,_,z⟩:=z;exact z.elim
    ·exact False.elim k
   ·exact False.elim k
  ·exact False.elim k
 ·exact False.elim k
def tsG(n:Nat)(y:D)(O:ao):Res D:=match qD y,O[n]? with
 |some k,some (.df kvs)=>match gK kvs k with
  |some d=>.ok d O
  |none=>.no
 | _,_=>tsF n y O
def dI(mo my:M D):M D:=λρ O=>(mo ρ O).bind λx O1=>match x with
 | .ob n=>(my ρ O1).bind λy O2=>tsG n y O2
 | _=>.no
theorem qK{kk:Nat}(hk:bM X.K=true)(hr:bG kk X.A){o i:Expr}{pos:Pos}{mo my:M D}(ho:VE X md P o mo)(hi:VE X md P i my)(hs:sZ i:=by intro _ _;rfl):VE X md P (.Subscript o i pos) (dI mo my):=λpins s σ H Q I q=>by
 obtain⟨ρ,O,F,as,d,O',r,sl,e,k⟩:=q;obtain⟨x,O1,e1,e⟩:=Res.bind_ok e
 cases x with
 |ob n =>
  obtain⟨y,O2,e2,e⟩:=Res.bind_ok e;unfold tsG at e;split at e
  ·rename_i ks kvs e3 e4;split at e
   ·rename_i d' e5;cases e;refine Ga (xf hr) ho hi hs pins s σ H Q I ⟨ρ,_,F,as,_,_,r,sl,e1,λx H1 F1 as1 g1 r1 hx=>⟨ρ,_,F1,as1,_,_,r1,sl.step g1,e2,λu H2 F2 as2 g2 r2 hu=>?_⟩⟩;obtain⟨a,rfl,ha⟩:=Rp.unO hx;obtain⟨o,xs,x1,x2⟩:=r2.df (g2.at_ n a ha) e4;obtain⟨b,rfl,hb⟩:=Rp.tkey hk hu e3
    rcases x2.val (k:=ks) with⟨z1,z2⟩ | ⟨d2,v',z1,z2,z3⟩
    ·rw[z1] at e5;cases e5
    ·rw[z1] at e5;cases e5;refine⟨a,v',rfl,?_,k _ H2 F2 as2 (g1.trans g2) r2 z3⟩;rw[<-z2];exact .inr ⟨xs,ks,b,.inr ⟨o,x1⟩,rfl,r2.fh _ _ hb,rfl⟩
   ·cases e
  ·refine VB hk hr ho hi hs pins s σ H Q I ⟨ρ,O,F,as,d,O',r,sl,?_,k⟩;unfold HF;rw[e1];show Res.bind (my ρ O1) _=_;rw[e2];exact e
 | _=>cases e
end
section
variable {X:Cx}{md:List Md}{P:Pt}{R:RR}
def j7(m:M D)(g:MG)(b:MS):MS:=λρ O=>match m ρ O with
 | .ok (.ob _) _=>qJ m g b ρ O
 | _=>bY (ym m) g b ρ O
theorem HJ{elts:List Expr}{x1:Nat}{tpos:Pos}{a:Expr}{p pos pos':Pos}{body:List Stmt}{m:M D}{g:MG}{b:MS}(hc:X.calm=true)(hm:X.mg "enumerate" = none)(hi:WE X md P a m)(hg:VG X md P (.Tuple elts x1 tpos) g)(hb:VSs X md P R body b)
  (hG:Gl X "enumerate":=by rfl) (hs1:starEach [a] X.env=[(false,eval a X.env)]:=by exact iG rfl) (hs2:starEach [a] X.env=(false,eval a X.env)::starEach [] X.env:=by exact cD rfl)
  (hp:PassesOwn (model X.prog X.w) X.A X.env X.xe:=by exact PassesOwn.never)
  (hs:∀x,foldedSetIterable (.Call (.Name "enumerate" p) [a] [] pos) X.env x=pure x:=by intro _;rfl):VS X md P R (.For (.Tuple elts x1 tpos) (.Call (.Name "enumerate" p) [a] [] pos) body [] pos') (j7 m g b):=λpins s σ H D I q=>by
 obtain⟨ρ,O,F,as,r,sl,k⟩:=q;unfold j7 at k;split at k
 ·exact Vh hc hm hi hg hb hG hs1 hs2 hp hs pins s σ H D I ⟨ρ,O,F,as,r,sl,k⟩
 ·exact fB hc (UW hm hi hG hs1 hs2) hg hb hp hs pins s σ H D I ⟨ρ,O,F,as,r,sl,k⟩
end
section
variable {prog:Program}{w:World}
end
section
variable {X:Cx}{md:List Md}{P:Pt}{R:RR}
end
end L2
namespace L2
open PySem PySem.Spec PyProof.Rows PySem.W PySem.Calls
section
variable {prog:Program}{w:World}{A:Around}{E:Value->Shared->Prop}{s:Shared}{a:Addr}{ss:List Str}
end
section
variable {prog:Program}{w:World}{A:Around}{E:Value->Shared->Prop}{s:Shared}{a:Addr}{ss:List Str}{o:Obj}{es:Array (Int×Value)}{ep:Nat}{t:SetTable}
end
section
variable {prog:Program}{w:World}{A:Around}{E:Value->Shared->Prop}{s:Shared}{a:Addr}{ss:List Str}{o:Obj}{es:Array (Int×Value)}{ep:Nat}{t:SetTable}
end
section
variable {X:Cx}
variable {md:List Md}{P:Pt}
end
structure Qzy(mg:Str->Option Value):Prop extends Hx mg where
 set_:mg "set" = none
def lt2(a1 a2 b1 b2:Str):Bool:=if a1=b1 then decide (a2.cps.toList<b2.cps.toList) else decide (a1.cps.toList<b1.cps.toList)
section
variable {prog:Program}{w:World}{A:Around}{E:Value->Shared->Prop}{s:Shared}{K:Frag}{H F:Hp}{as:List Addr}
end
section
variable {X:Cx}
end
end L2
namespace L2
open PySem PySem.Spec PyProof.Rows
section
variable {X:Cx}{md:List Md}{P:Pt}{R:RR}
def oG(mo m:M D):MS:=λρ O=>match mo ρ O with
 | .ok (.ob n) O1=>match O1[n]? with
  |some (.ml _)=>match m ρ O1 with
   | .ok d O2=>match O2[n]?,aZ O2 d with
    |some (.ml ds),.lst es=>if ds.length+es.length<=1000000 then .nx ρ (O2.set n (.ml (ds++es))) else .no
    | _,_=>.no
   | _=>.no
  | _=>.no
 | _=>.no
theorem V9{o e:Expr}{apos cpos pos:Pos}{mo m:M D}(ho:VE X md P o mo)(h:SE X md P e m)
  (hbase:attributeBase o "extend" X.env (eval o X.env)=eval o X.env:=by rfl)
  (hfew:((backTo cpos (starEach [e] X.env)).all (λx=>!x.1)&&(backToKw cpos (keywordEach [] X.env)).all (λx=>x.1.isSome)&&decide ([e].length+([]:List Keyword).length+(if([]:List Keyword).isEmpty then 0 else 1)<30))=true:=by rfl)
  (hline:(apos.endLine == cpos.line)=true:=by rfl) (hs:starEach [e] X.env=(false,eval e X.env)::starEach [] X.env:=by exact cD rfl) (hplain:(backTo cpos (starEach [] X.env)).any (·.1)=false:=by exact eO rfl)
  (hsw:swapsWith (.Call (.Attribute o "extend" apos) [e] [] cpos) none pos.line X.env=pure false:=by rfl):
  VS X md P R (.Expr (.Call (.Attribute o "extend" apos) [e] [] cpos) pos) (oG mo m):=
 (sU (wZ PySem.F.plainAttrs_list PySem.F.slot_list_extend PySem.F.type_list_extend Hf ho (gZ h jw hs) hbase hfew hline hs hplain) hsw).imp λD σ H q=>by
  obtain⟨ρ,O,F,as,r,s,k⟩:=q;unfold oG at k;split at k
  ·rename_i n O1 e1;split at k
   ·rename_i ds0 e2;split at k
    ·rename_i d O2 e3;split at k
     ·rename_i ds es e4 e5;split at k
      ·rename_i hz;refine⟨ρ,O,F,as,_,_,r,s,e1,λv H1 F1 as1 g1 r1 hv=>?_⟩;obtain⟨a,rfl,ha⟩:=Rp.unO hv;obtain⟨xs0,x1,x2⟩:=r1.ml ha e2;refine⟨.inl ⟨rfl,xs0,.inl (.inl x1)⟩,ρ,O1,F1,as1,d,O2,r1,s.step g1,e3,λy H2 F2 as2 g2 r2 hy=>?_⟩;have ha2:=g2.at_ n a ha;obtain⟨xs,y1,y2⟩:=r2.ml ha2 e4;have ly:=Sv.lk hy r2;rw[e5] at ly;obtain⟨b,zs,rfl,w1,w2⟩:=ly.list r2.fh;have g3:Gr H2 F2 as2 (upd H2 a (.lst (xs++zs))) F2 as2:=uh (zy ha2) y1;exact⟨a,b,xs,zs,rfl,rfl,y1,w1,by rw[y2.length,w2.length];exact fQ hz,k σ _ F2 as2 ((g1.trans g2).trans g3).toS (r2.mutO ha2 (Rps.append w2 y2)) (s.step ((g1.trans g2).trans g3))⟩
      ·exact False.elim k
     ·exact False.elim k
    ·exact False.elim k
   ·exact False.elim k
  ·exact False.elim k
end
section
variable {X:Cx}{md:List Md}{P:Pt}
variable {tg iter elt:Expr}{ifs:List Expr}{scope:Scope}{pos:Pos}{mi:M D}{g:MG}{t:M Bool}{e:M D}
end
end L2
namespace L2
open PySem PySem.Spec PyProof.Rows PySem.W
section
variable {X:Cx}{md:List Md}{P:Pt}{R:RR}
end
section
variable {X:Cx}{md:List Md}{P:Pt}{R:RR}
end
section
variable {Pr:Program}{w:World}{K:Frag}{mg:Str->Option Value}{base:Heap}
end
section
variable {X:Cx}{pins:List (Addr×Obj)}{σ:St}{H:Hp}{s:Shared}{ea:Addr}{oe:Obj}
def D2(D:Ends):Ends:={nx:=λ_ _=>False,rt:=D.rt}
end
end L2
namespace L2
open PySem PySem.Spec PyProof.Rows PySem.W PySem.Calls PySem.Builtin PySem.Builtin.ObjectAttr PySem.Builtin.Getset_descriptor
section
variable {prog:Program}{w:World}{A:Around}{E:Value->Shared->Prop}{K:Frag}{a C:Addr}{o:Obj}{h:Heap}{g:Array GenState}{d:Drawn}{t:Nat}{os:OsState}
structure Qzx(K:Frag)(C:Addr):Prop where
 ga:findIn K (.ref C) "__getattribute__" = some (some (.builtin "BaseException.__getattribute__"))
 na:findIn K (.ref C) "__getattr__" = some none
 ca:findIn K (.ref C) "__class__" = some (some (.builtin "object.__class__"))
 sp:specialIn K (.builtin "object.__class__") "__get__" = some (some (.builtin "getset_descriptor.__get__"))
 tk:takesIn K (.builtin "object.__class__")=some true
 ob:mroIn K C (.type "object")=some true
 be:mroIn K C (.type "BaseException")=some true
 cl:(clsIn K C).isSome=true
end
end L2
namespace L2
open PySem PySem.Spec PyProof.Rows PySem.W
section
variable {X:Cx}{ea C:Addr}{oe:Obj}
end
section
variable {X:Cx}{md:List Md}{P:Pt}{R:RR}
end
section
variable {X:Cx}{ea C:Addr}{oe:Obj}{i:Nat}{b:Bool}{n:Str}{p p1 pos:Pos}
end
end L2
namespace L2
open PySem PySem.Spec PyProof.Rows
section
variable {X:Cx}
variable {md:List Md}{P:Pt}
end
end L2
namespace L2
open PySem PySem.Spec PyProof.Rows PySem.W
section
variable {prog:Program}{w:World}{A:Around}{E:Value->Shared->Prop}
end
section
variable {X:Cx}{md:List Md}{P:Pt}{R:RR}
end
section
variable {X:Cx}{md:List Md}{P:Pt}{R:RR}
end
section
variable {K:Frag}{h:Heap}{mg:Str->Option Value}
theorem mkD{x:Str}{st:Stmt}{f:Addr}{oc:Value}{od an:Option Addr}{sl:Array (Option Value)}{kV dc pm cd ct:Value}(X:K.In h)(G:h.Ns mainGlobals mg)(a:nsIn K mainGlobals x=some (some (.ref f)))(l:K.lookup f=some ⟨oc,od,.func (fnOf x x (g8 st) (eU st) (aY st) .none kV dc pm an cd ct),sl⟩)(c:codeIn K cd x=true)(k:keepIn K (.ref f)=true):Def K mg x st:=⟨_,_,mg_of X G a,w6 l c k⟩
structure ClsAt(K:Frag)(c:Str)(A:Addr):Prop where
 ns:nsIn K mainGlobals c=some (some (.ref A))
 pg:plainGet K A Str.empty=true
 hd:hasDictIn K A=true
 po:plainOver K A=true
 sa:findIn K (.ref A) "__setattr__" = some (some (.builtin "object.__setattr__"))
 mks:makesIn K A=true
 kc:keepIn K (.ref A)=true
def MethAt(K:Frag)(A:Addr)(m qual:Str)(st:Stmt):Prop:=∃f fd,findIn K (.ref A) m=some (some (.ref f))/\isFn K (.ref f)=true/\keepIn K (.ref f)=true/\Fun K m qual st f fd
theorem mkM{A:Addr}{m qual:Str}{st:Stmt}{f:Addr}{oc:Value}{od an:Option Addr}{sl:Array (Option Value)}{kV dc pm cd ct:Value}(a:findIn K (.ref A) m=some (some (.ref f)))(i:isFn K (.ref f)=true)(l:K.lookup f=some ⟨oc,od,.func (fnOf m qual (g8 st) (eU st) (aY st) .none kV dc pm an cd ct),sl⟩)(c:codeIn K cd qual=true)(k:keepIn K (.ref f)=true):MethAt K A m qual st:=⟨_,_,a,i,k,w6 l c k⟩
variable {A:Addr}{c:Str}
theorem ClsAt.cl(z:ClsAt K c A):Cls K A:=⟨z.pg,z.hd,z.po,z.sa⟩
theorem ClsAt.dm(z:ClsAt K c A)(X:K.In h)(G:h.Ns mainGlobals mg){m qual:Str}{st:Stmt}(q:MethAt K A m qual st):mD K mg c m qual st:=by
 obtain⟨f,fd,a,i,k,fu⟩:=q;exact⟨_,_,_,mg_of X G z.ns,z.cl,⟨a,i,k⟩,fu⟩
theorem ClsAt.dc(z:ClsAt K c A)(X:K.In h)(G:h.Ns mainGlobals mg){qual:Str}{st:Stmt}(q:MethAt K A "__init__" qual st):yh K mg c qual st:=by
 obtain⟨f,fd,a,i,k,fu⟩:=q;exact⟨_,_,_,mg_of X G z.ns,⟨z.mks,a,i,z.kc⟩,fu⟩
theorem ClsAt.kf(z:ClsAt K c A)(X:K.In h)(G:h.Ns mainGlobals mg){f:Str}(n:findIn K (.ref A) f=some none):KC K mg c f:=⟨_,mg_of X G z.ns,z.cl,n⟩
end
end L2
namespace L2
open PySem PySem.Spec PyProof.Rows
section
variable {X:Cx}
end
def ofO(o:Option D)(O:ao):Res D:=match o with
 |some d=>.ok d O
 |none=>.no
@[simp] theorem mJ{d:D}{O:ao}:ofO (some d) O=.ok d O:=rfl
@[simp] theorem aO{α β:Type}{a:α}{O:ao}{f:α->ao->Res β}:(Res.ok a O).bind f=f a O:=rfl
@[simp] theorem Qxv{O:ao}:aZ O .non=.non:=rfl
@[simp] theorem jJ{O:ao}{b:Bool}:aZ O (.bl b)=.bl b:=rfl
@[simp] theorem mK{O:ao}{b:Int}:aZ O (.int b)=.int b:=rfl
@[simp] theorem HN{O:ao}{b:List Nat}:aZ O (.str b)=.str b:=rfl
@[simp] theorem mL{O:ao}{b:List D}:aZ O (.lst b)=.lst b:=rfl
@[simp] theorem Qxy{O:ao}{b:List D}:aZ O (.tup b)=.tup b:=rfl
@[simp] theorem Qxr{O:ao}{a b:List D}:aZ O (.dic a b)=.dic a b:=rfl
@[simp] theorem uw{i:Nat}{ρ:az}{O:ao}:aa i ρ O=(match ρ[i]? with | some (some d)=>.ok d O | _=>.no):=rfl
@[simp] theorem m_c{d:D}{ρ:az}{O:ao}:mC d ρ O=.ok d O:=rfl
@[simp] theorem yx{g:D->D->Option D}{a b:M D}{ρ:az}{O:ao}:aj g a b ρ O=(a ρ O).bind λx O1=>(b ρ O1).bind λy O2=>ofO (g (aZ O2 x) (aZ O2 y)) O2:=rfl
def gF(r:Res D):Res D:=match r with
 | .ok d O'=>if jz d=true then .ok d O' else .no
 |r=>r
@[simp] theorem m_g{m:M D}{ρ:az}{O:ao}:mG m ρ O=gF (m ρ O):=rfl
@[simp] theorem Qy0{i:Int}{O:ao}:gF (.ok (.int i) O)=.ok (.int i) O:=rfl
@[simp] theorem QyO{i:List Nat}{O:ao}:gF (.ok (.str i) O)=.ok (.str i) O:=rfl
@[simp] theorem Qzq{i:Bool}{O:ao}:gF (.ok (.bl i) O)=.ok (.bl i) O:=rfl
@[simp] theorem Qy3{O:ao}:gF (.ok .non O)=.ok .non O:=rfl
@[simp] theorem Qy4{l:List D}{O:ao}:gF (.ok (.tup l) O)=.ok (.tup l) O:=rfl
@[simp] theorem Qzu{n:Nat}{O:ao}:gF (.ok (.ob n) O)=.ok (.ob n) O:=rfl
def chF(o:Option D)(O:ao)(f:Unit->Res D):Res D:=match o with
 |some (.bl true)=>f ()
 |some (.bl false)=>.ok (.bl false) O
 | _=>.no
@[simp] theorem Wa{b:Bool}{O:ao}{f:Unit->Res D}:chF (some (.bl b)) O f=if b=true then f () else .ok (.bl false) O:=by cases b<;>rfl
@[simp] theorem Wb{g g':D->D->Option D}{a b c:M D}{ρ:az}{O:ao}:pY g g' a b c ρ O=(a ρ O).bind λx O1=>(b ρ O1).bind λy O2=>chF (g (aZ O2 x) (aZ O2 y)) O2 λ_=>(c ρ O2).bind λz O3=>ofO (g' (aZ O3 y) (aZ O3 z)) O3:=by
 unfold pY;congr 1
@[simp] theorem Wc{m:M D}{ρ:az}{O:ao}:jA m ρ O=(m ρ O).bind λd O1=>.ok (.bl (isNon d)) O1:=rfl
@[simp] theorem QyZ{m:M D}{ρ:az}{O:ao}:iJ m ρ O=(m ρ O).bind λd O1=>.ok (.bl (!isNon d)) O1:=rfl
@[simp] theorem Qxp:isNon .non=true:=rfl
@[simp] theorem Qxw{l:List D}:isNon (.lst l)=false:=rfl
@[simp] theorem Qxq{l:List D}:isNon (.tup l)=false:=rfl
@[simp] theorem Qxu{l:List Nat}:isNon (.str l)=false:=rfl
@[simp] theorem Qxt{l:Int}:isNon (.int l)=false:=rfl
@[simp] theorem Qyk{l:Nat}:isNon (.ob l)=false:=rfl
def teF(d:D)(O:ao):Res Bool:=match d with
 | .bl b=>.ok b O
 | _=>.no
@[simp] theorem HQ{b:Bool}{O:ao}:teF (.bl b) O=.ok b O:=rfl
@[simp] theorem ux{m:M D}{ρ:az}{O:ao}:aQ m ρ O=(m ρ O).bind teF:=rfl
def ofB(o:Option Bool)(O:ao):Res Bool:=match o with
 |some d=>.ok d O
 |none=>.no
@[simp] theorem qL{d:Bool}{O:ao}:ofB (some d) O=.ok d O:=rfl
@[simp] theorem qM{m:M D}{ρ:az}{O:ao}:bZ m ρ O=(m ρ O).bind λd O1=>ofB (nG (aZ O1 d)) O1:=rfl
@[simp] theorem qN{b:Bool}:nG (.bl b)=some b:=rfl
@[simp] theorem Qx3{b:List D}:nG (.lst b)=some (!b.isEmpty):=rfl
@[simp] theorem uy{a b:M Bool}{ρ:az}{O:ao}:lg a b ρ O=(a ρ O).bind λc O1=>if c=true then b ρ O1 else .ok false O1:=rfl
@[simp] theorem uz{a b:M Bool}{ρ:az}{O:ao}:fL a b ρ O=(a ρ O).bind λc O1=>if c=true then .ok true O1 else b ρ O1:=rfl
@[simp] theorem uA{a:M Bool}{ρ:az}{O:ao}:fM a ρ O=(a ρ O).bind λc O1=>.ok (!c) O1:=rfl
def anF(d:D)(O:ao)(f:Unit->Res D):Res D:=match d with
 | .bl true=>f ()
 | .bl false=>.ok (.bl false) O
 | _=>.no
def orF(d:D)(O:ao)(f:Unit->Res D):Res D:=match d with
 | .bl true=>.ok (.bl true) O
 | .bl false=>f ()
 | _=>.no
@[simp] theorem yz{b:Bool}{O:ao}{f:Unit->Res D}:anF (.bl b) O f=if b=true then f () else .ok (.bl false) O:=by cases b<;>rfl
@[simp] theorem Qzs{b:Bool}{O:ao}{f:Unit->Res D}:orF (.bl b) O f=if b=true then .ok (.bl true) O else f ():=by cases b<;>rfl
@[simp] theorem yC{a b:M D}{ρ:az}{O:ao}:ik a b ρ O=(a ρ O).bind λd O1=>anF d O1 λ_=>b ρ O1:=by
 unfold ik;congr 1
@[simp] theorem Qzn{a b:M D}{ρ:az}{O:ao}:Gx a b ρ O=(a ρ O).bind λd O1=>orF d O1 λ_=>b ρ O1:=by
 unfold Gx;congr 1
def noF(d:D)(O:ao):Res D:=match d with
 | .bl b=>.ok (.bl (!b)) O
 | _=>.no
@[simp] theorem Qzk{b:Bool}{O:ao}:noF (.bl b) O=.ok (.bl (!b)) O:=rfl
@[simp] theorem QyW{a:M D}{ρ:az}{O:ao}:xG a ρ O=(a ρ O).bind noF:=rfl
@[simp] theorem uB{t:M Bool}{a b:M D}{ρ:az}{O:ao}:mIf t a b ρ O=(t ρ O).bind λc O1=>if c=true then a ρ O1 else b ρ O1:=rfl
@[simp] theorem uC{ρ:az}{O:ao}:au ρ O=.ok [] O:=rfl
@[simp] theorem mO{m:M D}{r:M (List D)}{ρ:az}{O:ao}:ak m r ρ O=(m ρ O).bind λd O1=>(r ρ O1).bind λds O2=>.ok (d::ds) O2:=rfl
@[simp] theorem Wd{r:M (List D)}{ρ:az}{O:ao}:bK r ρ O=(r ρ O).bind λds O1=>if ds.length<=1000000 then .ok (.lst ds) O1 else .no:=rfl
@[simp] theorem HR{r:M (List D)}{ρ:az}{O:ao}:bU r ρ O=(r ρ O).bind λds O1=>if ds.length<=1000000 then .ok (.tup ds) O1 else .no:=rfl
@[simp] theorem yD{c:List D->ao->Res D}{ma:M (List D)}{ρ:az}{O:ao}:aJ c ma ρ O=(ma ρ O).bind λds O1=>c ds O1:=rfl
@[simp] theorem HS{g:List D->Option D}{ma:M (List D)}{ρ:az}{O:ao}:aX g ma ρ O=(ma ρ O).bind λds O1=>ofO (g (ds.map (aZ O1))) O1:=rfl
@[simp] theorem Qzw{g:D->Option D}{ma:M D}{ρ:az}{O:ao}:mUn g ma ρ O=(ma ρ O).bind λd O1=>ofO (g (aZ O1 d)) O1:=rfl
def isF(n:String)(o:Option String)(O:ao):Res D:=match o with
 |some t=>.ok (.bl (cN t n)) O
 |none=>.no
@[simp] theorem We{n t:String}{O:ao}:isF n (some t) O=.ok (.bl (cN t n)) O:=rfl
@[simp] theorem Wg{n:String}{m:M D}{ρ:az}{O:ao}:eY n m ρ O=(m ρ O).bind λd O1=>isF n (tyD (aZ O1 d)) O1:=rfl
@[simp] theorem QyL:tyD .non=some "NoneType":=rfl
@[simp] theorem Qzf{b:Bool}:tyD (.bl b)=some "bool":=rfl
@[simp] theorem QyB{b:Int}:tyD (.int b)=some "int":=rfl
@[simp] theorem Qyt{b:List Nat}:tyD (.str b)=some "str":=rfl
@[simp] theorem Qyx{b:List D}:tyD (.lst b)=some "list":=rfl
@[simp] theorem QyF{b:List D}:tyD (.tup b)=some "tuple":=rfl
@[simp] theorem QyG{a b:List D}:tyD (.dic a b)=some "dict":=rfl
@[simp] theorem yE{ρ:az}{O:ao}:moN ρ O=.ok none O:=rfl
def osF(d:D)(O:ao):Res (Option Int):=match d with
 | .int i=>.ok (some i) O
 | _=>.no
@[simp] theorem qO{i:Int}{O:ao}:osF (.int i) O=.ok (some i) O:=rfl
@[simp] theorem qP{m:M D}{ρ:az}{O:ao}:moS m ρ O=(m ρ O).bind osF:=rfl
@[simp] theorem qQ{m:M D}{lo hi:M (Option Int)}{ρ:az}{O:ao}:mSl m lo hi ρ O=(m ρ O).bind λd O1=>(lo ρ O1).bind λl O2=>(hi ρ O2).bind λh O3=>ofO (gSl (aZ O3 d) l h) O3:=rfl
@[simp] theorem QyE{l:List Nat}{lo hi:Option Int}:gSl (.str l) lo hi=if l.length<=16777216 then some (.str (dX l lo hi)) else none:=rfl
@[simp] theorem uD{l:List D}{lo hi:Option Int}:gSl (.lst l) lo hi=some (.lst (dX l lo hi)):=rfl
@[simp] theorem Qyw{l:List D}{lo hi:Option Int}:gSl (.tup l) lo hi=some (.tup (dX l lo hi)):=rfl
def gO(f:Fl)(b:MS):Fl:=match f with
 | .nx ρ' O'=>b ρ' O'
 |r=>r
@[simp] theorem bD{a b:MS}{ρ:az}{O:ao}:aB a b ρ O=gO (a ρ O) b:=rfl
@[simp] theorem bB{ρ:az}{O:ao}{b:MS}:gO (.nx ρ O) b=b ρ O:=rfl
@[simp] theorem Qyy{d:D}{O:ao}{b:MS}:gO (.rt d O) b=.rt d O:=rfl
@[simp] theorem Qyr{ρ:az}{O:ao}{b:MS}:gO (.bk ρ O) b=.bk ρ O:=rfl
@[simp] theorem QyA{ρ:az}{O:ao}{b:MS}:gO (.ct ρ O) b=.ct ρ O:=rfl
@[simp] theorem Qyv{b:MS}:gO .no b=.no:=rfl
@[simp] theorem iY{ρ:az}{O:ao}:bI ρ O=.nx ρ O:=rfl
def iZ(r:Res D):Fl:=match r with
 | .ok d O'=>.rt d O'
 | .ex x O'=>.ex x O'
 | .no=>.no
@[simp] theorem gR{m:M D}{ρ:az}{O:ao}:aW m ρ O=iZ (m ρ O):=rfl
@[simp] theorem QyM{d:D}{O:ao}:iZ (.ok d O)=.rt d O:=rfl
def HX(r:Res D)(ρ:az):Fl:=match r with
 | .ok _ O'=>.nx ρ O'
 | .ex x O'=>.ex x O'
 | .no=>.no
@[simp] theorem Wh{m:M D}{ρ:az}{O:ao}:qe m ρ O=HX (m ρ O) ρ:=rfl
@[simp] theorem Wi{d:D}{O:ao}{ρ:az}:HX (.ok d O) ρ=.nx ρ O:=rfl
def ifF(r:Res Bool)(a b:MS)(ρ:az):Fl:=match r with
 | .ok c O'=>if c=true then a ρ O' else b ρ O'
 | .ex x O'=>.ex x O'
 | .no=>.no
@[simp] theorem uE{t:M Bool}{a b:MS}{ρ:az}{O:ao}:bz t a b ρ O=ifF (t ρ O) a b ρ:=rfl
@[simp] theorem uF{c:Bool}{O:ao}{a b:MS}{ρ:az}:ifF (.ok c O) a b ρ=if c=true then a ρ O else b ρ O:=rfl
def qR(i:Nat)(r:Res D)(ρ:az):Fl:=match r with
 | .ok d O'=>.nx (ρ.set i (some d)) O'
 | .ex x O'=>.ex x O'
 | .no=>.no
@[simp] theorem yF{i:Nat}{m:M D}{ρ:az}{O:ao}:aC i m ρ O=qR i (m ρ O) ρ:=rfl
@[simp] theorem yG{i:Nat}{d:D}{O:ao}{ρ:az}:qR i (.ok d O) ρ=.nx (ρ.set i (some d)) O:=rfl
def yH(r:Res (List D))(g:MG)(b:MS)(ρ:az):Fl:=match r with
 | .ok ds O'=>cY g b ds ρ O'
 | .ex x O'=>.ex x O'
 | .no=>.no
@[simp] theorem gf{m:M (List D)}{g:MG}{b:MS}{ρ:az}{O:ao}:bY m g b ρ O=yH (m ρ O) g b ρ:=rfl
@[simp] theorem gh{ds:List D}{O:ao}{g:MG}{b:MS}{ρ:az}:yH (.ok ds O) g b ρ=cY g b ds ρ O:=rfl
@[simp] theorem mg_n{i:Nat}{d:D}{ρ:az}:mgN i d ρ=some (ρ.set i (some d)):=rfl
def bx(f:Fl):Res D:=match f with
 | .rt d O'=>.ok d O'
 | .nx _ O'=>.ok .non O'
 | .ex x O'=>.ex x O'
 | _=>.no
@[simp] theorem Wj{n:Nat}{b:MS}{ds:List D}{O:ao}:bL n b ds O=bx (b (ds.map some++List.replicate (n - ds.length) none) O):=rfl
@[simp] theorem Qyz{d:D}{O:ao}:bx (.rt d O)=.ok d O:=rfl
@[simp] theorem QyH{ρ:az}{O:ao}:bx (.nx ρ O)=.ok .non O:=rfl
@[simp] theorem Wk{m:M (List D)}{ρ:az}{O:ao}:dB m ρ O=(m ρ O).bind λds O1=>match ds with
 | [.int j]=>if j<=1000000000/\-1000000000<=j then .ok (cZ 0 j.toNat) O1 else .no
 | _=>.no:=rfl
def itF(o:Option (List D))(O:ao):Res (List D):=match o with
 |some ds=>.ok ds O
 |none=>.no
@[simp] theorem Wl{ds:List D}{O:ao}:itF (some ds) O=.ok ds O:=rfl
@[simp] theorem Wm{m:M D}{ρ:az}{O:ao}:cB m ρ O=(m ρ O).bind λd O1=>itF (ou d) O1:=rfl
@[simp] theorem Wn{ds:List D}:ou (.lst ds)=some ds:=rfl
@[simp] theorem Qxs{ds:List D}:ou (.tup ds)=some ds:=rfl
@[simp] theorem Wo{m:M (List D)}{own:Nat}{cap:List Nat}{g:MG}{t:M Bool}{e:M D}{ρ:az}{O:ao}:cI m own cap g t e ρ O=(m ρ O).bind λds O1=>if ds.length<=1000000 then(cz g t e ds (iK own cap ρ) O1 []).bind λys O2=>.ok (.lst ys) O2 else .no:=rfl
@[simp] theorem Qze{i j:Int}:aN (.int i) (.int j)=some (.int (i+j)):=rfl
@[simp] theorem Qy9{a b:List Nat}:aN (.str a) (.str b)=if a.length+b.length<=1000000 then some (.str (a++b)) else none:=rfl
@[simp] theorem HY{a b:List D}:aN (.lst a) (.lst b)=if a.length+b.length<=1000000 then some (.lst (a++b)) else none:=rfl
@[simp] theorem Qyj{i j:Int}:dO (.int i) (.int j)=some (.int (i - j)):=rfl
@[simp] theorem Wq{i j:Int}:bw (.int i) (.int j)=if 0<j then some (.int (i % j)) else none:=by
 unfold bw gI
 by_cases h:0<j<;>simp[h]
@[simp] theorem Ws{i j:Int}:du (.int i) (.int j)=if 0<j/\j<1073741824 then some (.int (i / j)) else none:=by
 unfold du gI
 by_cases h:0<j/\j<1073741824<;>simp[h]
theorem lG{i j:Int}(h:(-(2 ^ 64)<i/\i<2 ^ 64)\/(-(2 ^ 64)<j/\j<2 ^ 64)):cF (.int i) (.int j)=some (.int (i * j)):=by
 unfold cF;dsimp only;rw[if_pos];rw[Bool.or_eq_true];unfold nR;rw[zn,zn,decide_eq_true_eq,decide_eq_true_eq,decide_eq_true_eq,decide_eq_true_eq];exact h
@[simp] theorem Qzo{i j:Int}:gLt (.int i) (.int j)=some (.bl (decide (i<j))):=rfl
@[simp] theorem Qzi{i j:Int}:gGt (.int i) (.int j)=some (.bl (decide (j<i))):=rfl
@[simp] theorem Qzm{i j:Int}:gGe (.int i) (.int j)=some (.bl (decide (j<=i))):=rfl
@[simp] theorem Qzj{i j:Int}:gLe (.int i) (.int j)=some (.bl (decide (i<=j))):=rfl
theorem H9(a b:Nat):(([a]:List Nat) < [b])↔a<b:=by
 constructor
 ·intro h
  rcases List.cons_lt_cons_iff.mp h with h | ⟨_,h⟩
  ·exact h
  ·exact absurd h (List.not_lt_nil _)
 ·intro h;exact List.cons_lt_cons_iff.mpr (.inl h)
@[simp] theorem Wt{a b:Nat}:gLe (.str [a]) (.str [b])=some (.bl (decide (a<=b))):=by
 show some (D.bl (!decide (([b]:List Nat) < [a])))=_
 have:decide (([b]:List Nat) < [a])=decide (b<a):=by
  by_cases h:b<a
  ·rw[zz h,zz ((H9 _ _).mpr h)]
  ·rw[zo h,zo (λz=>h ((H9 _ _).mp z))]
 rw[this]
 by_cases h:b<a
 ·rw[zz h,zo (by omega)];rfl
 ·rw[zo h,zz (by omega)];rfl
@[simp] theorem Ia{i j:Int}:gEq (.int i) (.int j)=some (.bl (decide (i=j))):=rfl
@[simp] theorem uG{i j:List Nat}:gEq (.str i) (.str j)=some (.bl (decide (i=j))):=rfl
@[simp] theorem Qzt{i j:Bool}:gEq (.bl i) (.bl j)=some (.bl (decide (i=j))):=rfl
@[simp] theorem Wu{i j:List D}:gEq (.lst i) (.lst j)=if(okE (.lst i)&&okE (.lst j))=true then some (.bl (dz (.lst i) (.lst j))) else none:=rfl
@[simp] theorem Wv{i j:Int}:gNe (.int i) (.int j)=some (.bl (!decide (i=j))):=rfl
@[simp] theorem Ib{i j:List Nat}:gNe (.str i) (.str j)=some (.bl (!decide (i=j))):=rfl
@[simp] theorem Ie{i j:Bool}:gNe (.bl i) (.bl j)=some (.bl (!decide (i=j))):=rfl
@[simp] theorem Ww{i j:List D}:gNe (.lst i) (.lst j)=if(okE (.lst i)&&okE (.lst j))=true then some (.bl (!dz (.lst i) (.lst j))) else none:=rfl
@[simp] theorem Wx{n:Bool}{c:Nat}{l:List Nat}:gIn n (.str [c]) (.str l)=some (.bl (n ^^ decide (c∈l))):=rfl
theorem mR{ds:List D}{i:Int}:gIx (.lst ds) (.int i)=atI ds i:=rfl
theorem Ig{ds:List D}{i:Int}:gIx (.tup ds) (.int i)=atI ds i:=rfl
theorem WD{l:List Nat}{i:Int}:gIx (.str l) (.int i)=if l.length<=1000000 then(atI l i).map (λc=>.str [c]) else none:=rfl
@[simp] theorem Qzd{l:List Nat}:bF [.str l]=if l.length<=1000000 then some (.int l.length) else none:=rfl
@[simp] theorem Qzc{l:List D}:bF [.lst l]=some (.int l.length):=rfl
@[simp] theorem QyQ{l:List D}:bF [.tup l]=some (.int l.length):=rfl
@[simp] theorem QyU{i j:Int}:lB [.int i,.int j]=some (.int (if j>i then j else i)):=rfl
@[simp] theorem Qzh{i j:Int}:lC [.int i,.int j]=some (.int (if j<i then j else i)):=rfl
@[simp] theorem Qy2{i:Int}:lD [.int i]=some (.int i):=rfl
@[simp] theorem WK{b:Bool}:lD [.bl b]=some (.int (if b then 1 else 0)):=rfl
@[simp] theorem WL:d7 (.int 10) (.int 18)=some (.int 1000000000000000000):=by rfl
@[simp] theorem WM:d7 (.int 10) (.int 9)=some (.int 1000000000):=by rfl
@[simp] theorem mU{α:Type}{xs:List α}{j:Nat}:atI xs (j:Int)=xs[j]?:=by
 unfold atI ixN;rw[if_pos (by omega)]
 by_cases h:j<xs.length
 ·rw[if_pos (by omega)];simp
 ·rw[if_neg (by omega),zV (by omega)];rfl
theorem uH{α:Type}{xs:List α}{i:Int}(h0:0<=i)(h1:i<xs.length):∃x,atI xs i=some x/\x∈xs:=by
 obtain⟨j,rfl⟩:=Int.eq_ofNat_of_zero_le h0
 have hj:j<xs.length:=by omega
 exact⟨xs[j],by show atI xs (j:Int)=_;rw[mU,zg hj],zW hj⟩
section
variable {c:Prop}[Decidable c]
@[simp] theorem QxV{a b:Fl}:bx (if c then a else b)=if c then bx a else bx b:=by split<;>rfl
@[simp] theorem Qx8{a b:Res D}:iZ (if c then a else b)=if c then iZ a else iZ b:=by split<;>rfl
@[simp] theorem QxI{a b:Fl}{r:MS}:gO (if c then a else b) r=if c then gO a r else gO b r:=by split<;>rfl
@[simp] theorem QxR{α β:Type}{a b:Res α}{f:α->ao->Res β}:(if c then a else b).bind f=if c then a.bind f else b.bind f:=by split<;>rfl
@[simp] theorem Qys{a b:Res Bool}{x y:MS}{ρ:az}:ifF (if c then a else b) x y ρ=if c then ifF a x y ρ else ifF b x y ρ:=by split<;>rfl
@[simp] theorem Qyg{a b:Res D}{i:Nat}{ρ:az}:qR i (if c then a else b) ρ=if c then qR i a ρ else qR i b ρ:=by split<;>rfl
@[simp] theorem QyI{a b:Option D}{O:ao}:ofO (if c then a else b) O=if c then ofO a O else ofO b O:=by split<;>rfl
end
@[simp] theorem Ih:cN "str" "str" = true:=by decide
@[simp] theorem Qza:cN "int" "str" = false:=by decide
@[simp] theorem Qy8:cN "bool" "str" = false:=by decide
@[simp] theorem QyV:cN "list" "str" = false:=by decide
@[simp] theorem Qy6:cN "tuple" "str" = false:=by decide
@[simp] theorem Qy7:cN "dict" "str" = false:=by decide
@[simp] theorem QyR:cN "NoneType" "str" = false:=by decide
@[simp] theorem QyP:cN "int" "int" = true:=by decide
@[simp] theorem QyS:cN "int" "bool" = false:=by decide
@[simp] theorem Qyq:cN "bool" "bool" = true:=by decide
@[simp] theorem WN:cN "list" "list" = true:=by decide
@[simp] theorem Ii:cN "tuple" "tuple" = true:=by decide
@[simp] theorem QyD:cN "NoneType" "list" = false:=by decide
theorem gj{g:MG}{b:MS}(Pv:Nat->az->ao->Prop):∀(ds:List D) (k:Nat) (ρ:az) (O:ao),Pv k ρ O ->
  (∀i d ρ O,ds[i]?=some d->Pv (k+i) ρ O->∃ρ1,g d ρ=some ρ1/\∃ρ2 O2,(b ρ1 O=.nx ρ2 O2\/b ρ1 O=.ct ρ2 O2)/\Pv (k+i+1) ρ2 O2)->∃ρ' O',cY g b ds ρ O=.nx ρ' O'/\Pv (k+ds.length) ρ' O'
 | [],k,ρ,O,h,_=>⟨ρ,O,rfl,h⟩
 |d::ds,k,ρ,O,h,hs=>by
  obtain⟨ρ1,e1,ρ2,O2,e2,h2⟩:=hs 0 d ρ O rfl h
  obtain⟨ρ',O',e3,h3⟩:=gj Pv ds (k+1) ρ2 O2 h2 λi d' ρ' O' hi hp=>by
   have:=hs (i+1) d' ρ' O' (by simpa using hi) (by rw[show k+(i+1)=k+1+i by omega];exact hp)
   rw[show k+(i+1)+1=k+1+i+1 by omega] at this;exact this
  refine⟨ρ',O',?_,by rw[zE,show k+(ds.length+1)=k+1+ds.length by omega];exact h3⟩;unfold cY;rw[e1];dsimp only
  rcases e2 with e2 | e2<;>rw[e2]<;>exact e3
theorem Ij{g:MG}{t:M Bool}{m:M D}(Pv:az->Prop)(p:D->Bool):∀(ds:List D) (ρ:az) (O:ao) (acc:List D),Pv ρ->(∀d∈ds,∀ρ,Pv ρ->∃ρ1,g d ρ=some ρ1/\Pv ρ1/\t ρ1 O=.ok (p d) O/\m ρ1 O=.ok d O)->cz g t m ds ρ O acc=.ok (acc++ds.filter p) O
 | [],ρ,O,acc,_,_=>by simp[cz]
 |d::ds,ρ,O,acc,h,hs=>by
  obtain⟨ρ1,e1,h1,e2,e3⟩:=hs d zr ρ h
  have ih:=λacc=>Ij Pv p ds ρ1 O acc h1 λd' hd'=>hs d' (zw _ hd')
  unfold cz;rw[e1];dsimp only;rw[e2]
  cases q:p d with
  |true =>
   dsimp only;rw[e3];dsimp only;rw[ih,List.filter_cons,q];simp
  |false =>
   dsimp only;rw[ih,List.filter_cons,q];simp
@[simp] theorem QyX{ρ:az}{O:ao}:U4 ρ O=.ok [] O:=rfl
@[simp] theorem QyN{a b:M D}{r:M (List (D×D))}{ρ:az}{O:ao}:U5 a b r ρ O=(a ρ O).bind λx O1=>(b ρ O1).bind λy O2=>(r ρ O2).bind λps O3=>.ok ((x,y)::ps) O3:=rfl
def diF(o:Option (List Key))(kv:List (D×D))(O:ao):Res D:=match o with
 |some ks=>if ks.Nodup/\kv.length<=15 then .ok (.dic (kv.map (·.1)) (kv.map (·.2))) O else .no
 |none=>.no
@[simp] theorem QxE{ks:List Key}{kv:List (D×D)}{O:ao}:diF (some ks) kv O=if ks.Nodup/\kv.length<=15 then .ok (.dic (kv.map (·.1)) (kv.map (·.2))) O else .no:=rfl
@[simp] theorem Qzb{m:M (List (D×D))}{ρ:az}{O:ao}:U6 m ρ O=(m ρ O).bind λkv O1=>diF (keysOf kv) kv O1:=rfl
@[simp] theorem QyK{i:Int}:keyOf (.int i)=some (.inl i):=rfl
@[simp] theorem Qyu{i:List Nat}:keyOf (.str i)=some (.inr (S i)):=rfl
@[simp] theorem QwI:keysOf []=some []:=rfl
@[simp] theorem Qv9{a b:D}{r:List (D×D)}:keysOf ((a,b)::r)=(keyOf a).bind λk=>(keysOf r).map (k :: ·):=rfl
def joF(o:Option (List (List Nat)))(O:ao):Res D:=match o with
 |some ls=>if(ls.map List.length).sum<=1000000 then .ok (.str ls.flatten) O else .no
 |none=>.no
@[simp] theorem QxJ{ls:List (List Nat)}{O:ao}:joF (some ls) O=if(ls.map List.length).sum<=1000000 then .ok (.str ls.flatten) O else .no:=rfl
def jdF(d:D)(O:ao):Res D:=match d with
 | .lst ds=>joF (uf ds) O
 | _=>.no
@[simp] theorem Qzv{ds:List D}{O:ao}:jdF (.lst ds) O=joF (uf ds) O:=rfl
@[simp] theorem Qy5{m:M D}{ρ:az}{O:ao}:Ut m ρ O=(m ρ O).bind λd O1=>jdF (aZ O1 d) O1:=rfl
@[simp] theorem Qzr{own:Nat}{cap:List Nat}{ρ:az}:iK own cap ρ=List.replicate own none++cap.map λj=>(ρ[j]?).join:=rfl
@[simp] theorem Qxx{g:MG}{t:M Bool}{m:M D}{ρ:az}{O:ao}{acc:List D}:cz g t m [] ρ O acc=.ok acc O:=rfl
theorem uI:∀ds:List D,jD ds=ds.map toP
 | []=>rfl
 |d::ds=>by rw[jD,uI ds];rfl
theorem Ik:∀{ds:List D},(∀d∈ds,dw d=true)->jW ds=true
 | [],_=>rfl
 |d::ds,h=>by rw[jW,h d zr,Ik λx hx=>h x (zw _ hx)];rfl
theorem Il{n:Nat}(hn:n<60){ds:List D}(h:∀d∈ds,dw d=true/\(toP d).canLay0=true/\(toP d).depth<=n):okE (.lst ds)=true:=by
 unfold okE;rw[zn];refine⟨?_,?_⟩
 ·rw[dw];exact Ik λd hd=>(h d hd).1
 ·rw[toP,uI]
  refine Su hn λd hd=>?_
  obtain⟨x,hx,rfl⟩:=zP.mp hd;exact(h x hx).2
theorem qT{l:List Nat}(h:∀c∈l,c<1114112):(PyData.str (S l)).canLay0=true:=by
 show PyData.strOk (S l)=true;unfold PyData.strOk S;simp;exact h
theorem qU{d:D}(h:okE d=true):dz d d=true:=by
 unfold okE at h;rw[zn] at h
 have:=h.2
 unfold okD at this;rw[zn] at this;exact SeqAt.eqv_refl _ this.1
def it(f:Int->Int):Nat->Int->Int
 | 0,x=>x
 |n+1,x=>f (it f n x)
def mix(n k:Int):Int:=if n>1000000000000000000 then it (λr=>r / 1000000000) k.toNat n % 1000000000
 else
  let m:=it (λm=>(m * 48271+104729) % 2147483629) (k+2).toNat (n % 2147483647+7919)
  m * m % 998244353 / 11
theorem Im(j:Nat)(x:Int)(h0:0<=x)(h1:x<2147491566):0<=it (λm=>(m * 48271+104729) % 2147483629) j x/\it (λm=>(m * 48271+104729) % 2147483629) j x<2147491566:=by
 induction j with
 |zero=>exact⟨h0,h1⟩
 |succ j ih =>
  refine⟨ja _ (by decide),?_⟩
  have:=jd (it (λm=>(m * 48271+104729) % 2147483629) j x * 48271+104729) (show(0:Int)<2147483629 by decide)
  show(it (λm=>(m * 48271+104729) % 2147483629) j x * 48271+104729) % 2147483629<_;omega
def yI:MS:=(aB (bz (aQ (aj gGt (aa 0) (aj d7 (mC (.int 10)) (mC (.int 18))))) (aB (aC 2 (mG (aa 0)))
  (aB (bY (dB (ak (aa 1) au)) (mgN 3) (aC 2 (aj du (aa 2) (aj d7 (mC (.int 10)) (mC (.int 9))))))
  (aW (aj bw (aa 2) (aj d7 (mC (.int 10)) (mC (.int 9))))))) bI)
  (aB (aC 4 (aj aN (aj bw (aa 0) (mC (.int 2147483647))) (mC (.int 7919))))
  (aB (bY (dB (ak (aj aN (aa 1) (mC (.int 2))) au)) (mgN 3) (aC 4 (aj bw (aj aN (aj cF (aa 4) (mC (.int 48271))) (mC (.int 104729))) (mC (.int 2147483629)))))
  (aW (aj du (aj bw (aj cF (aa 4) (aa 4)) (mC (.int 998244353))) (mC (.int 11)))))))
theorem lH(lo:Int)(n:Nat):(cZ lo n).length=n:=by simp[cZ]
theorem WQ(n k:Int)(h0:0<=k)(h1:k<=1000000)(O:ao):bL 5 yI [.int n,.int k] O=.ok (.int (mix n k)) O:=by
 unfold mix
 by_cases hn:n>1000000000000000000
 ·obtain⟨ρ',O',e,rfl,o3,rfl⟩:=gj (g:=mgN 3) (b:=aC 2 (aj du (aa 2) (aj d7 (mC (.int 10)) (mC (.int 9)))))
   (λi ρ O'=>O'=O/\∃o3,ρ=[some (.int n),some (.int k),some (.int (it (λr=>r / 1000000000) i n)),o3,none]) (cZ 0 k.toNat) 0 [some (.int n),some (.int k),some (.int n),none,none] O ⟨rfl,none,rfl⟩ (by
    rintro i d ρ O' hi ⟨rfl,o3,rfl⟩;refine⟨_,rfl,?_⟩;simp;rw[show it (λr=>r / 1000000000) (i+1) n=it (λr=>r / 1000000000) i n / 1000000000 from rfl]
    exact⟨_,_,⟨rfl,rfl⟩,rfl,_,rfl⟩)
  rw[lH,zC] at e
  have hk:k<=1000000000/\-1000000000<=k:=by omega
  simp[yI,hn,hk,e]
 ·have hm0:0<=n % 2147483647+7919:=by have:=ja n (show(2147483647:Int)≠0 by decide);omega
  have hm1:n % 2147483647+7919<2147491566:=by have:=jd n (show(0:Int)<2147483647 by decide);omega
  obtain⟨ρ',O',e,rfl,o3,rfl⟩:=gj (g:=mgN 3) (b:=aC 4 (aj bw (aj aN (aj cF (aa 4) (mC (.int 48271))) (mC (.int 104729))) (mC (.int 2147483629))))
   (λi ρ O'=>O'=O/\∃o3,ρ=[some (.int n),some (.int k),none,o3,some (.int (it (λm=>(m * 48271+104729) % 2147483629) i (n % 2147483647+7919)))]) (cZ 0 (k+2).toNat) 0 [some (.int n),some (.int k),none,none,some (.int (n % 2147483647+7919))] O ⟨rfl,none,rfl⟩ (by
    rintro i d ρ O' hi ⟨rfl,o3,rfl⟩;refine⟨_,rfl,?_⟩;obtain⟨b0,b1⟩:=Im i _ hm0 hm1
    have:=lG (i:=it (λm=>(m * 48271+104729) % 2147483629) i (n % 2147483647+7919)) (j:=48271) (.inr ⟨by decide,by decide⟩)
    simp[this]
    rw[show it (λm=>(m * 48271+104729) % 2147483629) (i+1) (n % 2147483647+7919)=(it (λm=>(m * 48271+104729) % 2147483629) i (n % 2147483647+7919) * 48271+104729) % 2147483629 from rfl]
    exact⟨_,_,⟨rfl,rfl⟩,rfl,_,rfl⟩)
  rw[lH,zC] at e
  have hk:k+2<=1000000000/\-1000000000<=k+2:=by omega
  obtain⟨b0,b1⟩:=Im (k+2).toNat _ hm0 hm1;have hq:=lG (i:=it (λm=>(m * 48271+104729) % 2147483629) (k+2).toNat (n % 2147483647+7919)) (j:=it (λm=>(m * 48271+104729) % 2147483629) (k+2).toNat (n % 2147483647+7919)) (.inl ⟨by omega,by omega⟩);simp[yI,hn,hk,e,hq]
def Io(cs:List Str)(f:Str)(d:D)(O:ao):Res D:=match d with
 | .ob n=>match O[n]? with
  |some (.ins c fs)=>if c∈cs then match fs.lookup f with
   |some y=>.ok y O
   |none=>.no else .no
  | _=>.no
 | _=>.no
@[simp] theorem WR{cs:List Str}{f:Str}{m:M D}{ρ:az}{O:ao}:d8 cs f m ρ O=(m ρ O).bind (Io cs f):=rfl
def puF(cs:List Str)(f:Str)(d:D)(ρ:az)(r:Res D):Fl:=match r with
 | .ok (.ob n) O2=>match O2[n]? with
  |some (.ins c fs)=>if c∈cs/\fs.length<900 then .nx ρ (O2.set n (.ins c (putD f d fs))) else .no
  | _=>.no
 | _=>.no
def sfF(cs:List Str)(f:Str)(mo:M D)(r:Res D)(ρ:az):Fl:=match r with
 | .ok d O1=>puF cs f d ρ (mo ρ O1)
 | .ex x O'=>.ex x O'
 | .no=>.no
@[simp] theorem WT{cs:List Str}{f:Str}{mo mv:M D}{ρ:az}{O:ao}:j4 cs f mo mv ρ O=sfF cs f mo (mv ρ O) ρ:=by
 unfold j4 sfF puF
 cases mv ρ O<;>rfl
@[simp] theorem WW{cs:List Str}{f:Str}{mo:M D}{d:D}{O:ao}{ρ:az}:sfF cs f mo (.ok d O) ρ=puF cs f d ρ (mo ρ O):=rfl
def meF(c m:Str)(cf:List D->ao->Res D)(ma:ao->Res (List D))(d:D)(O1:ao):Res D:=match d with
 | .ob n=>match O1[n]? with
  |some (.ins c' fs)=>if c'=c/\(fs.lookup m).isNone=true then(ma O1).bind λds O2=>cf (.ob n::ds) O2 else .no
  | _=>.no
 | _=>.no
@[simp] theorem WX{c m:Str}{cf:List D->ao->Res D}{mo:M D}{ma:M (List D)}{ρ:az}{O:ao}:cR c m cf mo ma ρ O=(mo ρ O).bind (meF c m cf (ma ρ)):=rfl
def mkF(n:Nat)(r:Res D):Res D:=match r with
 | .ok .non O2=>.ok (.ob n) O2
 | .ok _ _=>.no
 | .ex x O2=>.ex x O2
 | .no=>.no
@[simp] theorem WY{c:Str}{cf:List D->ao->Res D}{ma:M (List D)}{ρ:az}{O:ao}:mF c cf ma ρ O=(ma ρ O).bind λds O1=>mkF O1.length (cf (.ob O1.length::ds) (O1++[.ins c []])):=by
 unfold mF;congr 1
@[simp] theorem W0{n:Nat}{O:ao}:mkF n (.ok .non O)=.ok (.ob n) O:=rfl
def apF(i:Nat)(r:Res D)(ρ:az):Fl:=match r with
 | .ok d O'=>match ρ[i]? with
  |some (some (.lst ds))=>if ds.length<1000000 then .nx (ρ.set i (some (.lst (ds++[d])))) O' else .no
  | _=>.no
 | .ex x O'=>.ex x O'
 | .no=>.no
@[simp] theorem yJ{i:Nat}{m:M D}{ρ:az}{O:ao}:cQ i m ρ O=apF i (m ρ O) ρ:=rfl
theorem yK{i:Nat}{d:D}{ds:List D}{ρ:az}{O:ao}(h:ρ[i]?=some (some (.lst ds)))(hl:ds.length<1000000):apF i (.ok d O) ρ=.nx (ρ.set i (some (.lst (ds++[d])))) O:=by
 unfold apF;dsimp only;rw[h];dsimp only;rw[if_pos hl]
def exF(i:Nat)(r:Res D)(ρ:az):Fl:=match r with
 | .ok d O'=>match ρ[i]?,aZ O' d with
  |some (some (.lst ds)),.lst es=>if ds.length+es.length<=1000000 then .nx (ρ.set i (some (.lst (ds++es)))) O' else .no
  | _,_=>.no
 | .ex x O'=>.ex x O'
 | .no=>.no
@[simp] theorem W2{i:Nat}{m:M D}{ρ:az}{O:ao}:oh i m ρ O=exF i (m ρ O) ρ:=rfl
theorem W3{i:Nat}{es ds:List D}{ρ:az}{O:ao}(h:ρ[i]?=some (some (.lst ds)))(hl:ds.length+es.length<=1000000):exF i (.ok (.lst es) O) ρ=.nx (ρ.set i (some (.lst (ds++es)))) O:=by
 unfold exF;dsimp only[aZ];rw[h];dsimp only;rw[if_pos hl]
def enF(d:D)(O1:ao):Res (List D):=match d with
 | .lst ds=>.ok (eZ 0 ds) O1
 | .str l=>if ascii l=true then .ok (eZ 0 (iQ l)) O1 else .no
 | _=>.no
@[simp] theorem QyT{m:M D}{ρ:az}{O:ao}:ym m ρ O=(m ρ O).bind enF:=rfl
def asF(r:Res D)(g:MG)(ρ:az):Fl:=match r with
 | .ok d O'=>match g d ρ with
  |some ρ'=>.nx ρ' O'
  |none=>.no
 | .ex x O'=>.ex x O'
 | .no=>.no
@[simp] theorem Qy1{m:M D}{g:MG}{ρ:az}{O:ao}:Tg m g ρ O=asF (m ρ O) g ρ:=rfl
@[simp] theorem Qzz{i j:Nat}{a b:D}{ρ:az}:fO 2 (cP (mgN i) (cP (mgN j) fU)) (.tup [a,b]) ρ=some ((ρ.set i (some a)).set j (some b)):=rfl
def stF(a b:D)(O:ao):Res D:=match a,b with
 | .str l,.str n=>.ok (.bl (decide (l.take n.length=n))) O
 | _,_=>.no
@[simp] theorem Qx0{a b:M D}{ρ:az}{O:ao}:Uu a b ρ O=(a ρ O).bind λx O1=>(b ρ O1).bind λy O2=>stF x y O2:=rfl
@[simp] theorem Qzl{l n:List Nat}{O:ao}:stF (.str l) (.str n) O=.ok (.bl (decide (l.take n.length=n))) O:=rfl
theorem qW{α:Type}{g:MG}{t:M Bool}{m:M D}(Pv:az->Prop)(f h:α->D):∀(xs:List α) (ρ:az) (O:ao) (acc:List D),Pv ρ->(∀x∈xs,∀ρ,Pv ρ->∃ρ1,g (f x) ρ=some ρ1/\Pv ρ1/\t ρ1 O=.ok true O/\m ρ1 O=.ok (h x) O)->cz g t m (xs.map f) ρ O acc=.ok (acc++xs.map h) O
 | [],ρ,O,acc,_,_=>by simp[cz]
 |x::xs,ρ,O,acc,hp,hs=>by
  obtain⟨ρ1,e1,h1,e2,e3⟩:=hs x zr ρ hp;rw[zj];unfold cz;rw[e1];dsimp only;rw[e2];dsimp only;rw[e3];dsimp only;rw[qW Pv f h xs ρ1 O _ h1 λd' hd'=>hs d' (zw _ hd')];simp
def Ip:List Nat:=[101,110,100]
def Ir:List Nat:=[97,110,101,119]
def Iu:List Nat:=[112,108,97,105,110]
def iw:List Nat:=[115,105,103,110]
def Iv:List Nat:=[105,110,107]
def Iw:List Nat:=[103,114,111,117,110,100]
def item(p:Int)(k v:List Nat):D:=.tup [.int p,.str k,.str v]
def col(c:Nat):Bool:=decide (c∈[97,98,99,100,101,102,103,104,46])
def W4(x:Nat):List Nat->List Nat×List Nat×Nat
 | []=>(iw,[91],0)
 |e::_=>if e=93 then(Iw,[x],3) else(iw,[91],0)
def W5:List Nat->List Nat×List Nat×Nat
 | []=>(iw,[91],0)
 |x::t=>if col x=true then W4 x t else(iw,[91],0)
def W6(x:Nat):List Nat->List Nat×List Nat×Nat
 | []=>(iw,[91],0)
 |e::_=>if e=93 then(Iv,[x],2) else(iw,[91],0)
def W7:List Nat->List Nat×List Nat×Nat
 | []=>(iw,[91],0)
 |d::t=>if d=93 then(Iu,[],1) else if d=91 then(iw,[91],1) else if col d=true then W6 d t else if d=47 then W5 t else(iw,[91],0)
def one(c:Nat)(t:List Nat):List Nat×List Nat×Nat :=
 if c=10 then(Ip,[],0) else if c=9 then(Ir,[],0) else if c=91 then W7 t else(iw,[c],0)
def items(p:Int):List Nat->List D
 | []=>[]
 |c::t=>item p (one c t).1 (one c t).2.1::items (p+((one c t).2.2+1:Nat)) (t.drop (one c t).2.2)
termination_by l=>l.length
decreasing_by
 simp only[List.length_drop,zE];omega
def own(p:Int)(c:Nat):D:=if c=10 then item p Ip [] else if c=9 then item p Ir [] else item p iw [c]
def owns:Int->List Nat->List D
 | _,[]=>[]
 |p,c::l=>own p c::owns (p+1) l
def W8:List Nat->Bool
 | [a]=>decide (a=91)
 | [a,b]=>decide (a=91)&&(decide (b=47) || col b)
 | [a,b,c]=>decide (a=91)&&(decide (b=47)&&col c)
 | _=>false
def markB:List Nat->Option (List Nat×List Nat)
 | [a,b]=>if a=91/\b=93 then some (Iu,[]) else if a=91/\b=91 then some (iw,[91]) else none
 | [a,b,c]=>if a=91/\col b=true/\c=93 then some (Iv,[b]) else none
 | [a,b,c,d]=>if a=91/\b=47/\col c=true/\d=93 then some (Iw,[c]) else none
 | _=>none
def tk(h:List Nat)(c:Nat)(p:Int):List D×List Nat :=
 if W8 (h++[c])=true then([],h++[c]) else match markB (h++[c]) with
 |some (k,v)=>([item p k v],[])
 |none=>if c=91 then(owns p h,[91]) else(owns p (h++[c]),[])
inductive qX:List Nat->Prop where
 | h0:qX []
 | h1:qX [91]
 | h2:qX [91,47]
 | h3 (x:Nat) (h:col x=true):qX [91,x]
 | h4 (x:Nat) (h:col x=true):qX [91,47,x]
@[simp] theorem W9{l:List D}:jE [.lst l]=some (.lst l):=rfl
def fzF(f:Fl):Fl:=match f with
 | .rt d O'=>.rt d O'
 | _=>.no
@[simp] theorem Qzp{m:MS}{ρ:az}{O:ao}:qC m ρ O=fzF (m ρ O):=rfl
@[simp] theorem QyY{d:D}{O:ao}:fzF (.rt d O)=.rt d O:=rfl
def ziF(d e:D)(O:ao):Res (List D):=match d,e with
 | .lst ds,.lst es=>.ok (di ds es) O
 | _,_=>.no
@[simp] theorem Xa{ma mb:M D}{ρ:az}{O:ao}:qz ma mb ρ O=(ma ρ O).bind λd O1=>(mb ρ O1).bind λe O2=>ziF d e O2:=by
 unfold qz;congr 1
@[simp] theorem Xb{ds es:List D}{O:ao}:ziF (.lst ds) (.lst es) O=.ok (di ds es) O:=rfl
end L2
namespace K76
open PySem L2
seal VE SE OE WE TsE TwE AE VS VSs VG VGs VI VIc VO VIf DPE
def top(i:Nat):Stmt:=PySem.Challenge.pw_outweave_k76_whole_patches_in_a_row.main.body.getD i (.Pass ⟨0,0,0,0⟩)
local macro_rules | `(tactic| trivial) => `(tactic| exact ⟨rfl, rfl, rfl, by decide +kernel, rfl, by decide +kernel, by decide +kernel⟩)
section
variable {Pr:Program}{w:World}{K:Frag}{mg:Str->Option Value}{base:Heap}
abbrev yL:Stmt:=top 2
theorem Iz:bN ["move","prices","beyond"] ["move","prices"] (aY yL):=by trivial
def uJ:MS :=
  (aB (aC 2 (dI (mG (aa 1)) (aj gIx (aa 0) (mC (.int 2)))))
  (aW (mIf (aQ (jA (aa 2))) (mC .non) (aj aN (aj gIx (aa 0) (mC (.int 0))) (aa 2)))))
def j8:List D->ao->Res D:=bL 3 uJ
abbrev yM(Pr:Program)(w:World)(K:Frag)(mg:Str->Option Value)(base:Heap):Prop:=Can Pr w K mg base "cost_over" ["move","prices"] 1 (vSp K mg [.s,.s] (rV K) j8)
theorem Xd(yN:Def K mg "cost_over" yL)
  (B:cg mg)
  (NK:bM K=true):
  yM Pr w K mg base:=by
 refine cU (k:=0) (b:=uJ) yN Iz (λ_ _ _ _ _ _=>bj λ_=>bj λ_=>cC rfl) [.s,.s] [.v] c7 (λ_ _ _ _=>Rp.non) (body:=λf cdv A outer s H E hr P=>?_);refine aM ?_ ?_;refine bA (i:=2) Iz.nd rfl (.inl rfl) ?_;refine qK NK hr (dY (aG 1)) ?_;refine bf (aG 0) (aq aF);refine aV ?_;refine cO ?_;refine qd ?_ xD ?_;refine xF (aq (aA 2));refine bc ?_;refine aP bR ?_ (aq (aA 2));refine aq ?_;refine bf (aG 0) (aq aF)
abbrev qY:Stmt:=top 3
theorem IK:bN ["moves","prices","costs"] ["moves","prices"] (aY qY):=by trivial
def uK:MS :=
  (aB (aC 2 (cI (cB (aa 0)) 1 [1] (mgN 0) cT (aJ j8 (ak (aa 0) (ak (aa 1) au)))))
  (aW (aX ur (ak (cI (cB (aa 2)) 1 [] (mgN 0) (aQ (iJ (aa 0))) (aa 0)) au))))
def mV:List D->ao->Res D:=bL 3 uK
abbrev yO(Pr:Program)(w:World)(K:Frag)(mg:Str->Option Value)(base:Heap):Prop:=Can Pr w K mg base "least_cost" ["moves","prices"] 2 (vSp K mg [.s,.s] (rV K) mV)
theorem Xe(yP:Def K mg "least_cost" qY)
  (B:cg mg)
  (NK:bM K=true)
  (oH:yM Pr w K mg base):
  yO Pr w K mg base:=by
 refine cU (k:=1) (b:=uK) yP IK (λ_ _ _ _ _ _=>bj λ_=>bj λ_=>cC rfl) [.s,.s] [.v] c7 (λ_ _ _ _=>Rp.non) (body:=λf cdv A outer s H E hr P=>?_);refine aM ?_ ?_;refine GJ (i:=2) (aY qY) ["moves","prices","costs"] ["move"] [1] IK.nd rfl (.inl rfl) rfl (jH (aG 0)) (λ_ _ _ _ P=>?_) (λ_ _ _ _ P=>?_) (λ_ _ _ _ P=>?_);exact bW (i:=0) (show(bC ["moves","prices","costs"] ["move"] [1]).Nodup by decide +kernel) rfl (.inl rfl);exact jC;refine cV oH (hr.mono (by decide)) ?_;refine aD (aq (aA 0)) ?_;refine aD (aG 1) aH;refine aV ?_;refine cO ?_;refine bc ?_
 refine VH rfl B.min_ ?_;refine aL ?_;refine lz (aY qY) ["moves","prices","costs"] ["cost"] [] rfl ?_ (λ_ _ _ _ P=>?_) (λ_ _ _ _ P=>?_) (λ_ _ _ _ P=>?_);refine jH (aq (aA 2));exact bW (i:=0) (show(bC ["moves","prices","costs"] ["cost"] []).Nodup by decide +kernel) rfl (.inl rfl);refine xN ?_;refine Gs (aq (aA 0));exact aA 0
abbrev yQ:Stmt:=inClass (top 11) 3
theorem Xf:bN ["self","at"] ["self","at"] (aY yQ):=by trivial
def IV:MS :=
  (aW (bK (ak (bU (ak (mG (aa 1)) (ak (mC (.int 0)) au))) (ak (bU (ak (mG (aa 1)) (ak (mC (.int 1)) au))) au))))
def oJ:List D->ao->Res D:=bL 2 IV
abbrev IW(Pr:Program)(w:World)(K:Frag)(mg:Str->Option Value)(base:Heap):Prop:=iR Pr w K mg base "Change" "nodes_at" ["self","at"] 1 (vSp K mg [.v,.s] (rO K) oJ)
theorem Xg(yR:mD K mg "Change" "nodes_at" "Change.nodes_at" yQ)
  (B:cg mg)
  (NK:bM K=true):
  IW Pr w K mg base:=by
 refine qy (k:=0) (b:=IV) yR Xf (λ_ _ _ _ _ _=>bj λ_=>bj λ_=>cC rfl) [.v,.s] [] dG (λ_ _ _ _=>.inl ⟨rfl,Rp.non⟩) (body:=λf cdv A outer s H E hr P=>?_);refine aV ?_;refine lY ?_;refine eX 2 ?_;refine bH ?_ ?_;refine fK 2 ?_;refine bH (dY (aG 1)) ?_;refine bH aF aH;refine bH ?_ aH;refine fK 2 ?_;refine bH (dY (aG 1)) ?_;refine bH aF aH
abbrev yS:Stmt:=inClass (top 11) 4
theorem uL:bN ["self","node","at","moves","cells"] ["self","node"] (aY yS):=by trivial
def uM:MS :=
  (aB (aC 2 (aj gIx (aa 1) (mC (.int 0))))
  (aB (bz (aQ (aj gEq (aa 2) (aX bF (ak (d8 ["Change"] "stretches" (aa 0)) au)))) (aW (bK au)) bI)
  (aB (aC 3 (bK au))
  (aB (bz (bZ (aj gIx (d8 ["Change"] "alike" (aa 0)) (aa 2))) (cQ 3 (bU (ak (mC (.int 0)) (ak (mC (.str [112,97,115,115])) (ak (bU (ak (aj aN (aa 2) (mC (.int 1))) (ak (mC (.int 0)) au))) au))))) bI)
  (aB (aC 4 (aj dO (aj gIx (aj gIx (d8 ["Change"] "stretches" (aa 0)) (aa 2)) (mC (.int 1))) (aj gIx (aj gIx (d8 ["Change"] "stretches" (aa 0)) (aa 2)) (mC (.int 0)))))
  (aB (bz (aQ (aj gEq (aj gIx (aa 1) (mC (.int 1))) (mC (.int 0)))) (cQ 3 (bU (ak (aj aN (mC (.int 4)) (aa 4)) (ak (mC (.str [98,101,103,105,110])) (ak (bU (ak (aj aN (aa 2) (mC (.int 1))) (ak (mC (.int 1)) au))) au))))) (cQ 3 (bU (ak (aa 4) (ak (mC (.str [111,110])) (ak (bU (ak (aj aN (aa 2) (mC (.int 1))) (ak (mC (.int 1)) au))) au))))))
  (aW (aa 3))))))))
def jK:List D->ao->Res D:=bL 5 uM
abbrev yU(Pr:Program)(w:World)(K:Frag)(mg:Str->Option Value)(base:Heap):Prop:=iR Pr w K mg base "Change" "moves_from" ["self","node"] 1 (vSp K mg [.v,.s] (rO K) jK)
theorem Xh(yV:mD K mg "Change" "moves_from" "Change.moves_from" yS)
  (B:cg mg)
  (NK:bM K=true)
  (oK:∃u,mg "WRITE_COST" = some u/\RelV (.int 4) u)
  (oM:KC K mg "Change" "alike")
  (fW:KC K mg "Change" "stretches"):
  yU Pr w K mg base:=by
 refine qy (k:=0) (b:=uM) yV uL (λ_ _ _ _ _ _=>bj λ_=>bj λ_=>cC rfl) [.v,.s] [.v,.o,.v] dG (λ_ _ _ _=>.inl ⟨rfl,Rp.non⟩) (body:=λf cdv A outer s H E hr P=>?_);refine aM ?_ ?_;refine bA (i:=2) uL.nd rfl (.inl rfl) ?_;refine bf (aG 1) (aq aF);refine aM ?_ ?_;refine cX ?_ ?_ dg;refine dq (gb hr) (aq (aA 2)) ?_ (cu _);refine aL ?_;refine dU (ms:=[.s]) (hv:=fD) fC B.len_ ?_;refine aD ?_ aH;refine aq (mz (j6 fW j5) (aA 0));refine aV ?_;refine lY (eX 0 aH);refine aM ?_ ?_;refine jB (i:=3) uL.nd rfl (.inl rfl) (eX 0 aH);refine aM ?_ ?_;refine cX ?_ ?_ dg
 refine f9 ?_;refine aq ?_;refine bf ?_ (aq (aA 2));refine aq (mz (j6 oM j5) (aA 0));refine aV ?_;refine iu 3 ?_;refine fK 3 ?_;refine bH aF ?_;refine bH (dM [112,97,115,115]) ?_;refine bH ?_ aH;refine fK 2 ?_;refine bH ?_ ?_;refine bc ?_;refine aP bR (aq (aA 2)) (aq aF);refine bH aF aH;refine aM ?_ ?_;refine bA (i:=4) uL.nd rfl (.inl rfl) ?_;refine bc ?_;refine aP lZ ?_ ?_;refine aq ?_;refine bf ?_ (aq aF);refine aq ?_;refine bf ?_ (aq (aA 2));refine aq (mz (j6 fW j5) (aA 0));refine aq ?_;refine bf ?_ (aq aF);refine aq ?_;refine bf ?_ (aq (aA 2))
 refine aq (mz (j6 fW j5) (aA 0));refine aM ?_ (aV (jU 3));refine cX ?_ ?_ ?_;refine dq (gb hr) ?_ (aq aF) (cu _);refine aq ?_;refine bf (aG 1) (aq aF);refine aV ?_;refine iu 3 ?_;refine fK 3 ?_;refine bH ?_ ?_;refine bc ?_;refine aP bR ?_ (aq (aA 4));refine aq ?_;refine jT oK (λ_ _ _=>Rp.int);refine bH (dM [98,101,103,105,110]) ?_;refine bH ?_ aH;refine fK 2 ?_;refine bH ?_ ?_;refine bc ?_;refine aP bR (aq (aA 2)) (aq aF);refine bH aF aH;refine aV ?_;refine iu 3 ?_;refine fK 3 ?_;refine bH (aA 4) ?_;refine bH (dM [111,110]) ?_;refine bH ?_ aH
 refine fK 2 ?_;refine bH ?_ ?_;refine bc ?_;refine aP bR (aq (aA 2)) (aq aF);refine bH aF aH
abbrev yW:Stmt:=inClass (top 11) 5
theorem Xi:bN ["self","node"] ["self","node"] (aY yW):=by trivial
def uN:MS :=
  (aW (aj gEq (aj gIx (aa 1) (mC (.int 0))) (aX bF (ak (d8 ["Change"] "stretches" (aa 0)) au))))
def jL:List D->ao->Res D:=bL 2 uN
abbrev yX(Pr:Program)(w:World)(K:Frag)(mg:Str->Option Value)(base:Heap):Prop:=iR Pr w K mg base "Change" "is_end" ["self","node"] 1 (vSp K mg [.v,.s] (rV K) jL)
theorem Xj(yZ:mD K mg "Change" "is_end" "Change.is_end" yW)
  (B:cg mg)
  (NK:bM K=true)
  (fW:KC K mg "Change" "stretches"):
  yX Pr w K mg base:=by
 refine qy (k:=0) (b:=uN) yZ Xi (λ_ _ _ _ _ _=>bj λ_=>bj λ_=>cC rfl) [.v,.s] [] c7 (λ_ _ _ _=>Rp.non) (body:=λf cdv A outer s H E hr P=>?_);refine aV ?_;refine cO ?_;refine bc ?_;refine iI (gb hr) ?_ ?_ (cu _);refine aq ?_;refine bf (aG 1) (aq aF);refine aL ?_;refine dU (ms:=[.s]) (hv:=fD) fC B.len_ ?_;refine aD ?_ aH;refine aq (mz (j6 fW j5) (aA 0))
abbrev z7:Stmt:=top 4
theorem lJ:bN ["trail","at","prices","moves","node","changed","cost"] ["trail","at","prices"] (aY z7):=by trivial
def uO:MS :=
  (aB (aC 3 qG)
  (aB (bY (cB (cR "Change" "nodes_at" oJ (mG (aa 0)) (ak (aa 1) au))) (mgN 4) (aB (gM (aa 3) (aa 4) (cR "Change" "moves_from" jK (mG (aa 0)) (ak (aa 4) au)))
  (gM (mG (aa 2)) (aa 4) (mIf (bZ (cR "Change" "is_end" jL (mG (aa 0)) (ak (aa 4) au))) (mC (.int 0)) (mC .non)))))
  (aB (aC 5 (mC (.bl true)))
  (lu 10 (bZ (aa 5)) (aB (aC 5 (mC (.bl false)))
  (oF 3 (bY (oE (aa 3)) (mgN 4) (aB (aC 6 (aJ mV (ak (dI (aa 3) (aa 4)) (ak (aa 2) au))))
  (bz (lg (aQ (iJ (aa 6))) (fL (aQ (jA (dI (mG (aa 2)) (aa 4)))) (aQ (aj gLt (aa 6) (dI (mG (aa 2)) (aa 4)))))) (aB (gM (mG (aa 2)) (aa 4) (aa 6))
  (aC 5 (mC (.bl true)))) bI)))))))))
def qZ:List D->ao->Res D:=bL 7 uO
abbrev Ja(Pr:Program)(w:World)(K:Frag)(mg:Str->Option Value)(base:Heap):Prop:=Can Pr w K mg base "price_nodes" ["trail","at","prices"] 3 (vSp K mg [.s,.s,.s] (rV K) qZ)
theorem Xk(z8:Def K mg "price_nodes" z7)
  (B:cg mg)
  (NK:bM K=true)
  (z9:IW Pr w K mg base)
  (oN:yU Pr w K mg base)
  (oO:yX Pr w K mg base)
  (oR:yO Pr w K mg base):
  Ja Pr w K mg base:=by
 refine cU (k:=2) (b:=uO) z8 lJ (λ_ _ _ _ _ _=>bj λ_=>bj λ_=>bj λ_=>cC rfl) [.s,.s,.s] [.v,.v,.v,.v] c7 (λ_ _ _ _=>Rp.non) (body:=λf cdv A outer s H E hr P=>?_);refine aM (bA (i:=3) lJ.nd rfl (.inl rfl) Ht) ?_;refine aM ?_ ?_;refine fB rfl ?_ (bW (i:=4) lJ.nd rfl (.inl rfl)) ?_;refine ug ?_;refine qt ?_;refine bc ?_;refine yo z9 (hr.mono (by decide)) (dY (aG 0)) ?_;refine aD (aG 1) aH;refine aM ?_ ?_;refine yq NK hr (aA 3) (aA 4) ?_;refine bc ?_;refine yo oN (hr.mono (by decide)) (dY (aG 0)) ?_;refine aD (aq (aA 4)) aH;refine aV ?_;refine yq NK hr (dY (aG 2)) (aA 4) ?_
 refine qd ?_ aF xD;refine f9 ?_;refine aq ?_;refine Hl oO (hr.mono (by decide)) (dY (aG 0)) ?_;refine aD (aq (aA 4)) aH;refine aM (bA (i:=5) lJ.nd rfl (.inl rfl) gG) ?_;refine aV ?_;refine GD 10 ?_ ?_;refine f9 (aq (aA 5));refine aM (bA (i:=5) lJ.nd rfl (.inl rfl) gG) ?_;refine aV ?_;refine V8 3 ?_;refine fB rfl (V7 (aA 3)) (bW (i:=4) lJ.nd rfl (.inl rfl)) ?_;refine aM ?_ ?_;refine bA (i:=6) lJ.nd rfl (.inl rfl) ?_;refine cV oR (hr.mono (by decide)) ?_;refine aD ?_ ?_;refine aq ?_;refine qK NK hr (aA 3) (aA 4);refine aD (aG 2) aH;refine aV ?_;refine cX ?_ ?_ dg
 refine nH ?_;refine Gw ?_ ?_;refine Gs (aq (aA 6));refine Gv ?_;refine nH ?_;refine pZ ?_ ?_;refine xF ?_;refine aq ?_;refine qK NK hr (dY (aG 2)) (aA 4);refine tV ?_;refine dq tZ (aq (aA 6)) ?_ (cu _);refine aq ?_;refine qK NK hr (dY (aG 2)) (aA 4);refine aM ?_ ?_;refine yq NK hr (dY (aG 2)) (aA 4) (aA 6);refine aV (bA (i:=5) lJ.nd rfl (.inl rfl) gG)
abbrev Aa:Stmt:=inClass (top 11) 2
theorem Xl:bN ["self"] ["self"] (aY Aa):=by trivial
def uP:MS :=
  (aW (aX bF (ak (d8 ["Change"] "stretches" (aa 0)) au)))
def rn:List D->ao->Res D:=bL 1 uP
abbrev Jb(Pr:Program)(w:World)(K:Frag)(mg:Str->Option Value)(base:Heap):Prop:=iR Pr w K mg base "Change" "last_at" ["self"] 1 (vSp K mg [.v] (rV K) rn)
theorem Xm(Ab:mD K mg "Change" "last_at" "Change.last_at" Aa)
  (B:cg mg)
  (NK:bM K=true)
  (fW:KC K mg "Change" "stretches"):
  Jb Pr w K mg base:=by
 refine qy (k:=0) (b:=uP) Ab Xl (λ_ _ _ _ _ _=>bj λ_=>cC rfl) [.v] [] c7 (λ_ _ _ _=>Rp.non) (body:=λf cdv A outer s H E hr P=>?_);refine aV ?_;refine cO ?_;refine bc ?_;refine dU (ms:=[.s]) (hv:=fD) fC B.len_ ?_;refine aD ?_ aH;refine aq (mz (j6 fW j5) (aA 0))
abbrev Ac:Stmt:=top 5
theorem Ad:bN ["trail","prices","at"] ["trail"] (aY Ac):=by trivial
def uQ:MS :=
  (aB (aC 1 qG)
  (aB (bY (uv (ak (cR "Change" "last_at" rn (mG (aa 0)) au) (ak (mUn jV (mC (.int 1))) (ak (mUn jV (mC (.int 1))) au)))) (mgN 2) (qe (aJ qZ (ak (aa 0) (ak (aa 2) (ak (aa 1) au))))))
  (aW (aa 1))))
def uR:List D->ao->Res D:=bL 3 uQ
abbrev Jc(Pr:Program)(w:World)(K:Frag)(mg:Str->Option Value)(base:Heap):Prop:=Can Pr w K mg base "priced" ["trail"] 4 (vSp K mg [.s] (rV K) uR)
theorem Xn(Ae:Def K mg "priced" Ac)
  (B:cg mg)
  (NK:bM K=true)
  (Af:Jb Pr w K mg base)
  (Ag:Ja Pr w K mg base):
  Jc Pr w K mg base:=by
 refine cU (k:=3) (b:=uQ) Ae Ad (λ_ _ _ _ _ _=>bj λ_=>cC rfl) [.s] [.v,.v] c7 (λ_ _ _ _=>Rp.non) (body:=λf cdv A outer s H E hr P=>?_);refine aM (bA (i:=1) Ad.nd rfl (.inl rfl) Ht) ?_;refine aM ?_ ?_;refine fB rfl ?_ (bW (i:=2) Ad.nd rfl (.inl rfl)) ?_;refine VP B.range_ ?_;refine aD ?_ ?_;refine aq ?_;refine Hm Af (hr.mono (by decide)) (dY (aG 0));refine aD ?_ ?_;refine aL ?_;refine xQ (aq aF);refine aD ?_ aH;refine aL ?_;refine xQ (aq aF);refine aV ?_;refine Te ?_;refine aq ?_;refine cV Ag (hr.mono (by decide)) ?_;refine aD (aG 0) ?_;refine aD (aq (aA 2)) ?_
 refine aD (aq (aA 1)) aH;refine aV (cO (aA 1))
abbrev uT:Stmt:=top 6
theorem Jd:bN ["moves","prices","least"] ["moves","prices"] (aY uT):=by trivial
def uU:MS :=
  (aB (aC 2 (aJ mV (ak (aa 0) (ak (aa 1) au))))
  (aW (aj gIx (cI (cB (aa 0)) 1 [1,2] (mgN 0) (aQ (aj gEq (aJ j8 (ak (aa 0) (ak (aa 1) au))) (aa 2))) (aa 0)) (mC (.int 0)))))
def rz:List D->ao->Res D:=bL 3 uU
abbrev Je(Pr:Program)(w:World)(K:Frag)(mg:Str->Option Value)(base:Heap):Prop:=Can Pr w K mg base "first_cheapest" ["moves","prices"] 3 (vSp K mg [.s,.s] (rV K) rz)
theorem Xo(Ah:Def K mg "first_cheapest" uT)
  (B:cg mg)
  (NK:bM K=true)
  (oR:yO Pr w K mg base)
  (oH:yM Pr w K mg base):
  Je Pr w K mg base:=by
 refine cU (k:=2) (b:=uU) Ah Jd (λ_ _ _ _ _ _=>bj λ_=>bj λ_=>cC rfl) [.s,.s] [.v] c7 (λ_ _ _ _=>Rp.non) (body:=λf cdv A outer s H E hr P=>?_);refine aM ?_ ?_;refine bA (i:=2) Jd.nd rfl (.inr rfl) ?_;refine cV oR (hr.mono (by decide)) ?_;refine aD (aG 0) ?_;refine aD (aG 1) aH;refine aV ?_;refine cO ?_;refine bf ?_ (aq aF);refine aL ?_;refine lz (aY uT) ["moves","prices","least"] ["move"] [1,2] rfl (jH (aG 0)) (λ_ _ _ _ P=>?_) (λ_ _ _ _ P=>?_) (λ_ _ _ _ P=>?_);exact bW (i:=0) (show(bC ["moves","prices","least"] ["move"] [1,2]).Nodup by decide +kernel) rfl (.inl rfl)
 refine xN ?_;refine dq (gb hr) ?_ (aq (aA 2)) (cu _);refine aq ?_;refine cV oH (hr.mono (by decide)) ?_;refine aD (aq (aA 0)) ?_;refine aD (aG 1) aH;exact aA 0
abbrev Ai:Stmt:=inClass (top 11) 1
theorem Xp:bN ["self"] ["self"] (aY Ai):=by trivial
def Jf:MS :=
  (aW (bU (ak (mC (.int 0)) (ak (mC (.int 0)) au))))
def rE:List D->ao->Res D:=bL 1 Jf
abbrev Jg(Pr:Program)(w:World)(K:Frag)(mg:Str->Option Value)(base:Heap):Prop:=iR Pr w K mg base "Change" "first_node" ["self"] 1 (vSp K mg [.v] (rV K) rE)
theorem Xq(Aj:mD K mg "Change" "first_node" "Change.first_node" Ai)
  (B:cg mg)
  (NK:bM K=true):
  Jg Pr w K mg base:=by
 refine qy (k:=0) (b:=Jf) Aj Xp (λ_ _ _ _ _ _=>bj λ_=>cC rfl) [.v] [] c7 (λ_ _ _ _=>Rp.non) (body:=λf cdv A outer s H E hr P=>?_);refine aV ?_;refine cO ?_;refine fK 2 ?_;refine bH aF ?_;refine bH aF aH
abbrev Ak:Stmt:=top 7
theorem mW:bN ["trail","prices","node","cost","names","move"] ["trail"] (aY Ak):=by trivial
def uV:MS :=
  (aB (aC 1 (aJ uR (ak (aa 0) au)))
  (aB (aC 2 (cR "Change" "first_node" rE (mG (aa 0)) au))
  (aB (aC 3 (dI (aa 1) (aa 2)))
  (aB (bz (aQ (jA (aa 3))) (aW (mC .non)) bI)
  (aB (aC 4 (bK au))
  (aB (lu 50 (fM (bZ (cR "Change" "is_end" jL (mG (aa 0)) (ak (aa 2) au)))) (aB (aC 5 (aJ rz (ak (cR "Change" "moves_from" jK (mG (aa 0)) (ak (aa 2) au)) (ak (aa 1) au))))
  (aB (cQ 4 (aj gIx (aa 5) (mC (.int 1))))
  (aC 2 (aj gIx (aa 5) (mC (.int 2)))))))
  (qC (aW (bU (ak (aa 3) (ak (aa 4) au)))))))))))
def uW:List D->ao->Res D:=bL 6 uV
abbrev Jh(Pr:Program)(w:World)(K:Frag)(mg:Str->Option Value)(base:Heap):Prop:=Can Pr w K mg base "way_of" ["trail"] 5 (vSp K mg [.s] (rV K) uW)
theorem Xr(Al:Def K mg "way_of" Ak)
  (B:cg mg)
  (NK:bM K=true)
  (Am:Jc Pr w K mg base)
  (An:Jg Pr w K mg base)
  (oO:yX Pr w K mg base)
  (Ao:Je Pr w K mg base)
  (oN:yU Pr w K mg base):
  Jh Pr w K mg base:=by
 refine cU (k:=4) (b:=uV) Al mW (λ_ _ _ _ _ _=>bj λ_=>cC rfl) [.s] [.v,.v,.v,.o,.v] c7 (λ_ _ _ _=>Rp.non) (body:=λf cdv A outer s H E hr P=>?_);refine aM ?_ ?_;refine bA (i:=1) mW.nd rfl (.inl rfl) ?_;refine cV Am (hr.mono (by decide)) ?_;refine aD (aG 0) aH;refine aM ?_ ?_;refine bA (i:=2) mW.nd rfl (.inl rfl) ?_;refine Hm An (hr.mono (by decide)) (dY (aG 0));refine aM ?_ ?_;refine bA (i:=3) mW.nd rfl (.inl rfl) ?_;refine qK NK hr (aA 1) (aA 2);refine aM ?_ ?_;refine cX ?_ ?_ dg;refine xF (aq (aA 3));refine aV (cO xD);refine aM ?_ ?_;refine jB (i:=4) mW.nd rfl (.inl rfl) (eX 0 aH)
 refine aM ?_ ?_;refine GD 50 ?_ ?_;refine nJ ?_;refine f9 ?_;refine aq ?_;refine Hl oO (hr.mono (by decide)) (dY (aG 0)) ?_;refine aD (aq (aA 2)) aH;refine aM ?_ ?_;refine bA (i:=5) mW.nd rfl (.inl rfl) ?_;refine cV Ao (hr.mono (by decide)) ?_;refine aD ?_ ?_;refine aL ?_;refine yo oN (hr.mono (by decide)) (dY (aG 0)) ?_;refine aD (aq (aA 2)) aH;refine aD (aq (aA 1)) aH;refine aM ?_ ?_;refine iu 4 ?_;refine bf (aq (aA 5)) (aq aF);refine aV ?_;refine bA (i:=2) mW.nd rfl (.inl rfl) ?_;refine bf (aq (aA 5)) (aq aF);refine aV ?_;refine Vc 4 rfl ?_;refine cO ?_
 refine fK 2 ?_;refine bH (aA 3) ?_;refine bH (aA 4) aH
abbrev uX:Stmt:=top 10
theorem Ji:bN ["row","begins"] ["row"] (aY uX):=by trivial
def uY:MS :=
  (aB (aC 1 (lF (aa 0) 2 [] (fO 2 (cP (mgN 0) (cP (mgN 1) fU))) (aQ (aj gNe (aj gIx (aa 1) (mC (.int 0))) (mC (.str [])))) (aa 0)))
  (aW (aX gLZ (ak (aa 1) (ak (aj aN (mSl (aa 1) (moS (mC (.int 1))) moN) (bK (ak (aX bF (ak (aa 0) au)) au))) au)))))
def oU:List D->ao->Res D:=bL 2 uY
abbrev Aq(Pr:Program)(w:World)(K:Frag)(mg:Str->Option Value)(base:Heap):Prop:=Can Pr w K mg base "letter_stretches" ["row"] 1 (vSp K mg [.s] (rO K) oU)
theorem Xu(Ar:Def K mg "letter_stretches" uX)
  (B:cg mg)
  (NK:bM K=true):
  Aq Pr w K mg base:=by
 refine cU (k:=0) (b:=uY) Ar Ji (λ_ _ _ _ _ _=>bj λ_=>cC rfl) [.s] [.v] dG (λ_ _ _ _=>.inl ⟨rfl,Rp.non⟩) (body:=λf cdv A outer s H E hr P=>?_);refine aM ?_ ?_;refine Vw (i:=1) (aY uX) ["row","begins"] ["col","cell"] [] Ji.nd rfl (.inl rfl) rfl B.enumerate_ (ue 0) (λ_ _ _ _ P=>?_) (λ_ _ _ _ P=>?_) (λ_ _ _ _ P=>?_);refine nQ 2 rfl ?_;refine il (bW (i:=0) (show(bC ["row","begins"] ["col","cell"] []).Nodup by decide +kernel) rfl (.inl rfl)) ?_;refine il (bW (i:=1) (show(bC ["row","begins"] ["col","cell"] []).Nodup by decide +kernel) rfl (.inl rfl)) nP
 refine xN ?_;refine dq (jX hr) ?_ (aq (dM [])) (cu _);refine aq ?_;refine bf (aq (aA 1)) (aq aF);exact aA 0;refine aV ?_;refine lY ?_;refine Vt (ms:=[.s,.s]) rfl B.list_ B.zip_ ?_;refine aD (aq (aA 1)) ?_;refine aD ?_ aH;refine aL ?_;refine aP bR ?_ ?_;refine aL ?_;refine lA (aq (aA 1)) (iM aF) qi;refine aL ?_;refine eX 1 ?_;refine bH ?_ aH;refine bc ?_;refine dU (ms:=[.s]) (hv:=fD) fC B.len_ ?_;refine aD (aG 0) aH
abbrev uZ:Stmt:=inClass (top 11) 0
theorem Xv:bN ["self","one","other"] ["self","one","other"] (aY uZ):=by trivial
def u0:MS :=
  (aB (j4 ["Change"] "stretches" (aa 0) (aJ oU (ak (aa 2) au)))
  (j4 ["Change"] "alike" (aa 0) (cI (cB (d8 ["Change"] "stretches" (aa 0))) 2 [1,2] (fO 2 (cP (mgN 0) (cP (mgN 1) fU))) cT (aj gEq (mSl (aa 2) (moS (aa 0)) (moS (aa 1))) (mSl (aa 3) (moS (aa 0)) (moS (aa 1)))))))
def rG:List D->ao->Res D:=bL 3 u0
abbrev Jj(Pr:Program)(w:World)(K:Frag)(mg:Str->Option Value)(base:Heap):Prop:=yg Pr w K mg base "Change" ["self","one","other"] 2 (vSp K mg [.v,.s,.s] (rV K) rG)
theorem Xw(Av:yh K mg "Change" "Change.__init__" uZ)
  (B:cg mg)
  (NK:bM K=true)
  (fW:KC K mg "Change" "stretches")
  (oM:KC K mg "Change" "alike")
  (oV:Aq Pr w K mg base):
  Jj Pr w K mg base:=by
 refine UG (k:=1) (b:=u0) Av Xv (λ_ _ _ _ _ _=>bj λ_=>bj λ_=>bj λ_=>cC rfl) [.v,.s,.s] [] c7 (λ_ _ _ _=>Rp.non) (body:=λf cdv A outer s H E hr P=>?_);refine aM ?_ ?_;refine Hg (j6 fW j5) (aA 0) ?_;refine bc ?_;refine fc oV (hr.mono (by decide)) ?_;refine aD (aG 2) aH;refine aV ?_;refine Hg (j6 oM j5) (aA 0) ?_;refine bc ?_;refine lz (aY uZ) ["self","one","other"] ["lo","hi"] [1,2] rfl ?_ (λ_ _ _ _ P=>?_) (λ_ _ _ _ P=>?_) (λ_ _ _ _ P=>?_);refine jH ?_;refine aq (mz (j6 fW j5) (aA 0));refine nQ 2 rfl ?_;refine il (bW (i:=0) (show(bC ["self","one","other"] ["lo","hi"] [1,2]).Nodup by decide +kernel) rfl (.inl rfl)) ?_
 refine il (bW (i:=1) (show(bC ["self","one","other"] ["lo","hi"] [1,2]).Nodup by decide +kernel) rfl (.inl rfl)) nP;exact jC;refine bc ?_;refine iI (gb hr) ?_ ?_ (cu _);refine aL ?_;refine lA (aG 2) (iM (aA 0)) (iM (aA 1));refine aL ?_;refine lA (aG 3) (iM (aA 0)) (iM (aA 1))
abbrev Aw:Stmt:=top 12
theorem rH:bN ["place","one","other","names","writes","name","stretch"] ["place","one","other"] (aY Aw):=by trivial
def u6:MS :=
  (aB (aC 3 (aj gIx (aJ uW (ak (mF "Change" rG (ak (aa 1) (ak (aa 2) au))) au)) (mC (.int 1))))
  (aB (aC 4 (bK au))
  (aB (bY (qz (aa 3) (aJ oU (ak (aa 2) au))) (fO 2 (cP (mgN 5) (cP (mgN 6) fU))) (aB (bz (aQ (aj gEq (aa 5) (mC (.str [98,101,103,105,110])))) (cQ 4 (bU (ak (mG (aa 0)) (ak (aj gIx (aa 6) (mC (.int 0))) (ak (mMl (bK au)) au))))) bI)
  (bz (aQ (aj gNe (aa 5) (mC (.str [112,97,115,115])))) (oG (aj gIx (aj gIx (aa 4) (mUn jV (mC (.int 1)))) (mC (.int 2))) (mSl (aa 2) (moS (aj gIx (aa 6) (mC (.int 0)))) (moS (aj gIx (aa 6) (mC (.int 1)))))) bI)))
  (aW (aa 4)))))
def u9:List D->ao->Res D:=bL 7 u6
abbrev Jk(Pr:Program)(w:World)(K:Frag)(mg:Str->Option Value)(base:Heap):Prop:=Can Pr w K mg base "row_writes" ["place","one","other"] 6 (vSp K mg [.s,.s,.s] (rO K) u9)
theorem Xx(Ay:Def K mg "row_writes" Aw)
  (B:cg mg)
  (NK:bM K=true)
  (Az:Jh Pr w K mg base)
  (Ba:Jj Pr w K mg base)
  (oV:Aq Pr w K mg base):
  Jk Pr w K mg base:=by
 refine cU (k:=5) (b:=u6) Ay rH (λ_ _ _ _ _ _=>bj λ_=>bj λ_=>bj λ_=>cC rfl) [.s,.s,.s] [.v,.o,.v,.v] dG (λ_ _ _ _=>.inl ⟨rfl,Rp.non⟩) (body:=λf cdv A outer s H E hr P=>?_);refine aM ?_ ?_;refine bA (i:=3) rH.nd rfl (.inl rfl) ?_;refine bf ?_ (aq aF);refine aq ?_;refine cV Az (hr.mono (by decide)) ?_;refine aD ?_ aH;refine aq ?_;refine UT Ba (hr.mono (by decide)) ?_;refine aD (aG 1) ?_;refine aD (aG 2) aH;refine aM ?_ ?_;refine jB (i:=4) rH.nd rfl (.inl rfl) (eX 0 aH);refine aM ?_ (aV (jU 4));refine fB rfl ?_ ?_ ?_;refine Va B.zip_ (qt (aA 3)) ?_
 refine qt ?_;refine bc ?_;refine fc oV (hr.mono (by decide)) ?_;refine aD (aG 2) aH;refine nQ 2 rfl ?_;refine il (bW (i:=5) rH.nd rfl (.inl rfl)) ?_;refine il (bW (i:=6) rH.nd rfl (.inl rfl)) nP;refine aM ?_ ?_;refine cX ?_ ?_ dg;refine dq (gb hr) (aq (aA 5)) (aq (dM [98,101,103,105,110])) (cu _);refine aV ?_;refine iu 4 ?_;refine fK 3 ?_;refine bH (dY (aG 0)) ?_;refine bH ?_ ?_;refine bf (aq (aA 6)) (aq aF);refine bH ?_ aH;refine oA (eX 0 aH);refine aV ?_;refine cX ?_ ?_ dg;refine dq (jX hr) (aq (aA 5)) (aq (dM [112,97,115,115])) (cu _);refine aV ?_
 refine V9 ?_ ?_;refine bf ?_ (aq aF);refine aq ?_;refine bf (aG 4) ?_;refine aL ?_;refine xQ (aq aF);refine aL ?_;refine lA (aG 2) ?_ ?_;refine iM ?_;refine bf (aq (aA 6)) (aq aF);refine iM ?_;refine bf (aq (aA 6)) (aq aF)
abbrev Bb:Stmt:=top 13
theorem vd:bN ["one","other","writes","place","row"] ["one","other"] (aY Bb):=by trivial
def vf:MS :=
  (aB (aC 2 (bK au))
  (aB (j7 (aa 1) (fO 2 (cP (mgN 3) (cP (mgN 4) fU))) (bz (aQ (aj gNe (aj gIx (aa 0) (aa 3)) (aa 4))) (oh 2 (aJ u9 (ak (aa 3) (ak (aj gIx (aa 0) (aa 3)) (ak (aa 4) au))))) bI))
  (aW (aa 2))))
def lK:List D->ao->Res D:=bL 5 vf
abbrev Jl(Pr:Program)(w:World)(K:Frag)(mg:Str->Option Value)(base:Heap):Prop:=Can Pr w K mg base "patch" ["one","other"] 7 (vSp K mg [.s,.s] (rO K) lK)
theorem Xy(Bc:Def K mg "patch" Bb)
  (B:cg mg)
  (NK:bM K=true)
  (Bd:Jk Pr w K mg base):
  Jl Pr w K mg base:=by
 refine cU (k:=6) (b:=vf) Bc vd (λ_ _ _ _ _ _=>bj λ_=>bj λ_=>cC rfl) [.s,.s] [.o,.v,.v] dG (λ_ _ _ _=>.inl ⟨rfl,Rp.non⟩) (body:=λf cdv A outer s H E hr P=>?_);refine aM ?_ ?_;refine jB (i:=2) vd.nd rfl (.inl rfl) (eX 0 aH);refine aM ?_ (aV (jU 2));refine HJ rfl B.enumerate_ (ue 1) ?_ ?_;refine nQ 2 rfl ?_;refine il (bW (i:=3) vd.nd rfl (.inl rfl)) ?_;refine il (bW (i:=4) vd.nd rfl (.inl rfl)) nP;refine aV ?_;refine cX ?_ ?_ dg;refine dq (jX hr) ?_ (aq (aA 4)) (cu _);refine aq ?_;refine bf (aG 0) (aq (aA 3));refine aV ?_;refine Uy 2 ?_
 refine aL ?_;refine fc Bd (hr.mono (by decide)) ?_;refine aD (aq (aA 3)) ?_;refine aD ?_ ?_;refine aq ?_;refine bf (aG 0) (aq (aA 3));refine aD (aq (aA 4)) aH
abbrev vg:Stmt:=top 14
theorem rJ:bN ["picture","writes","rows","write","step","cell"] ["picture","writes"] (aY vg):=by trivial
def Jm:MS :=
  (aB (aC 2 (cI (cB (aa 0)) 1 [] (mgN 0) cT (mMl (aX jE (ak (aa 0) au)))))
  (aB (bY (cB (aa 1)) (mgN 3) (j7 (aj gIx (aa 3) (mC (.int 2))) (fO 2 (cP (mgN 4) (cP (mgN 5) fU))) (lE (aj gIx (aa 2) (aj gIx (aa 3) (mC (.int 0)))) (aj aN (aj gIx (aa 3) (mC (.int 1))) (aa 4)) (aa 5))))
  (aW (aa 2))))
def vh:List D->ao->Res D:=bL 6 Jm
abbrev Jo(Pr:Program)(w:World)(K:Frag)(mg:Str->Option Value)(base:Heap):Prop:=Can Pr w K mg base "patched" ["picture","writes"] 1 (vSp K mg [.s,.s] (rO K) vh)
theorem Xz(Be:Def K mg "patched" vg)
  (B:cg mg)
  (NK:bM K=true):
  Jo Pr w K mg base:=by
 refine cU (k:=0) (b:=Jm) Be rJ (λ_ _ _ _ _ _=>bj λ_=>bj λ_=>cC rfl) [.s,.s] [.o,.v,.v,.v] dG (λ_ _ _ _=>.inl ⟨rfl,Rp.non⟩) (body:=λf cdv A outer s H E hr P=>?_);refine aM ?_ ?_;refine GK (i:=2) (aY vg) ["picture","writes","rows","write","step","cell"] ["row"] [] rJ.nd rfl (.inl rfl) rfl (jH (aG 0)) (λ_ _ _ _ P=>?_) (λ_ _ _ _ P=>?_) (λ_ _ _ _ P=>?_);exact bW (i:=0) (show(bC ["picture","writes","rows","write","step","cell"] ["row"] []).Nodup by decide +kernel) rfl (.inl rfl);exact jC;refine oA ?_;refine t8 (ms:=[.s]) (hv:=qp) xT B.list_ ?_;refine aD (aq (aA 0)) aH
 refine aM ?_ (aV (jU 2));refine fB rfl (ug (ue 1)) (bW (i:=3) rJ.nd rfl (.inl rfl)) ?_;refine aV ?_;refine HJ rfl B.enumerate_ ?_ ?_ ?_;refine qt ?_;refine bf (aq (aA 3)) (aq aF);refine nQ 2 rfl ?_;refine il (bW (i:=4) rJ.nd rfl (.inl rfl)) ?_;refine il (bW (i:=5) rJ.nd rfl (.inl rfl)) nP;refine aV ?_;refine Ve (aA 5) ?_ ?_;refine bf (aG 2) ?_;refine aq ?_;refine bf (aq (aA 3)) (aq aF);refine bc ?_;refine aP bR ?_ (aq (aA 4));refine aq ?_;refine bf (aq (aA 3)) (aq aF)
abbrev vm:Stmt:=top 15
theorem XC:bN ["writes"] ["writes"] (aY vm):=by trivial
def Jp:MS :=
  (aW (aX nW (ak (cI (cB (aa 0)) 1 [] (mgN 0) cT (aj aN (mC (.int 4)) (aX bF (ak (aj gIx (aa 0) (mC (.int 2))) au)))) au)))
def oW:List D->ao->Res D:=bL 1 Jp
abbrev Jq(Pr:Program)(w:World)(K:Frag)(mg:Str->Option Value)(base:Heap):Prop:=Can Pr w K mg base "cost_of" ["writes"] 1 (vSp K mg [.s] (rV K) oW)
theorem XD(Bf:Def K mg "cost_of" vm)
  (B:cg mg)
  (NK:bM K=true)
  (oK:∃u,mg "WRITE_COST" = some u/\RelV (.int 4) u):
  Jq Pr w K mg base:=by
 refine cU (k:=0) (b:=Jp) Bf XC (λ_ _ _ _ _ _=>bj λ_=>cC rfl) [.s] [] c7 (λ_ _ _ _=>Rp.non) (body:=λf cdv A outer s H E hr P=>?_);refine aV ?_;refine cO ?_;refine bc ?_;refine dU (ms:=[.s]) (hv:=Ug) (Ub rfl) B.sum_ ?_;refine aD ?_ aH;refine aL ?_;refine lz (aY vm) ["writes"] ["write"] [] rfl (jH (aG 0)) (λ_ _ _ _ P=>?_) (λ_ _ _ _ P=>?_) (λ_ _ _ _ P=>?_);exact bW (i:=0) (show(bC ["writes"] ["write"] []).Nodup by decide +kernel) rfl (.inl rfl);exact jC;refine bc ?_;refine aP bR ?_ ?_;refine aq ?_;refine jT oK (λ_ _ _=>Rp.int);refine aL ?_;refine dU (ms:=[.s]) (hv:=fD) fC B.len_ ?_
 refine aD ?_ aH;refine aq ?_;refine bf (aq (aA 0)) (aq aF)
abbrev Bg:Stmt:=top 17
theorem XF:bN ["sign"] ["sign"] (aY Bg):=by trivial
def Bh:MS :=
  (aW (mIf (aQ (pY gLe gLe (mC (.str [65])) (aa 0) (mC (.str [90])))) (mC (.int 2)) (mC (.int 1))))
def oX:List D->ao->Res D:=bL 1 Bh
abbrev Jr(Pr:Program)(w:World)(K:Frag)(mg:Str->Option Value)(base:Heap):Prop:=Can Pr w K mg base "width_of" ["sign"] 1 (vSp K mg [.s] (rV K) oX)
theorem XH(Bj:Def K mg "width_of" Bg)
  (B:cg mg)
  (NK:bM K=true):
  Jr Pr w K mg base:=by
 refine cU (k:=0) (b:=Bh) Bj XF (λ_ _ _ _ _ _=>bj λ_=>cC rfl) [.s] [] c7 (λ_ _ _ _=>Rp.non) (body:=λf cdv A outer s H E hr P=>?_);refine aV ?_;refine cO ?_;refine qd ?_ aF aF;refine SN tY tY (aq (dM [65])) (aG 0) (aq (dM [90]))
abbrev Bk:Stmt:=top 19
theorem XJ:bN ["sign","ink"] ["sign","ink"] (aY Bk):=by trivial
def Js:MS :=
  (aW (mIf (aQ (aj gEq (aa 0) (mC (.str [32])))) (mC (.str [46])) (mG (aa 1))))
def rK:List D->ao->Res D:=bL 2 Js
abbrev Jt(Pr:Program)(w:World)(K:Frag)(mg:Str->Option Value)(base:Heap):Prop:=Can Pr w K mg base "shown_ink" ["sign","ink"] 1 (vSp K mg [.s,.s] (rV K) rK)
theorem XM(Bm:Def K mg "shown_ink" Bk)
  (B:cg mg)
  (NK:bM K=true):
  Jt Pr w K mg base:=by
 refine cU (k:=0) (b:=Js) Bm XJ (λ_ _ _ _ _ _=>bj λ_=>bj λ_=>cC rfl) [.s,.s] [] c7 (λ_ _ _ _=>Rp.non) (body:=λf cdv A outer s H E hr P=>?_);refine aV ?_;refine cO ?_;refine qd ?_ (dM [46]) (dY (aG 1));refine dq (gb hr) (aG 0) (aq (dM [32])) (cu _)
abbrev vo:Stmt:=top 20
theorem XN:bN ["letters"] ["letters"] (aY vo):=by trivial
def Ju:MS :=
  (aW (cI (cB (aa 0)) 1 [] (mgN 0) cT (bU (ak (aj gIx (aa 0) (mC (.int 0))) (ak (aJ rK (ak (aj gIx (aa 0) (mC (.int 0))) (ak (aj gIx (aa 0) (mC (.int 1))) au))) (ak (aj gIx (aa 0) (mC (.int 2))) au))))))
def vp:List D->ao->Res D:=bL 1 Ju
abbrev Jv(Pr:Program)(w:World)(K:Frag)(mg:Str->Option Value)(base:Heap):Prop:=Can Pr w K mg base "look" ["letters"] 2 (vSp K mg [.s] (rO K) vp)
theorem XQ(Bo:Def K mg "look" vo)
  (B:cg mg)
  (NK:bM K=true)
  (Bp:Jt Pr w K mg base):
  Jv Pr w K mg base:=by
 refine cU (k:=1) (b:=Ju) Bo XN (λ_ _ _ _ _ _=>bj λ_=>cC rfl) [.s] [] dG (λ_ _ _ _=>.inl ⟨rfl,Rp.non⟩) (body:=λf cdv A outer s H E hr P=>?_);refine aV ?_;refine lY ?_;refine lz (aY vo) ["letters"] ["letter"] [] rfl (jH (aG 0)) (λ_ _ _ _ P=>?_) (λ_ _ _ _ P=>?_) (λ_ _ _ _ P=>?_);exact bW (i:=0) (show(bC ["letters"] ["letter"] []).Nodup by decide +kernel) rfl (.inl rfl);exact jC;refine fK 3 ?_;refine bH ?_ ?_;refine bf (aq (aA 0)) (aq aF);refine bH ?_ ?_;refine cV Bp (hr.mono (by decide)) ?_;refine aD ?_ ?_;refine aq ?_;refine bf (aq (aA 0)) (aq aF)
 refine aD ?_ aH;refine aq ?_;refine bf (aq (aA 0)) (aq aF);refine bH ?_ aH;refine bf (aq (aA 0)) (aq aF)
abbrev vq:Stmt:=top 27
theorem XR:bN ["high","wide"] ["high","wide"] (aY vq):=by trivial
def Jw:MS :=
  (aW (cI (dB (ak (aa 0) au)) 1 [1] (mgN 0) cT (mMl (aj cF (bK (ak (mC (.tup [.str [32],.str [46],.str [46]])) au)) (aa 1)))))
def mX:List D->ao->Res D:=bL 2 Jw
abbrev Jx(Pr:Program)(w:World)(K:Frag)(mg:Str->Option Value)(base:Heap):Prop:=Can Pr w K mg base "blank" ["high","wide"] 1 (vSp K mg [.s,.s] (rO K) mX)
theorem XS(Bq:Def K mg "blank" vq)
  (B:cg mg)
  (NK:bM K=true)
  (oY:um K mg "BLANK_CELL" [[32],[46],[46]]):
  Jx Pr w K mg base:=by
 refine cU (k:=0) (b:=Jw) Bq XR (λ_ _ _ _ _ _=>bj λ_=>bj λ_=>cC rfl) [.s,.s] [] dG (λ_ _ _ _=>.inl ⟨rfl,Rp.non⟩) (body:=λf cdv A outer s H E hr P=>?_);refine aV ?_;refine lY ?_;refine lz (aY vq) ["high","wide"] ["row"] [1] rfl ?_ (λ_ _ _ _ P=>?_) (λ_ _ _ _ P=>?_) (λ_ _ _ _ P=>?_);refine tW ?_;refine jG B.range_ ?_;refine aD (aG 0) aH;exact bW (i:=0) (show(bC ["high","wide"] ["row"] [1]).Nodup by decide +kernel) rfl (.inl rfl);exact jC;refine oA ?_;refine aP ir ?_ (aG 1);refine aL ?_;refine eX 1 ?_;refine bH (Hq (ls:=[[32],[46],[46]]) oY) aH
abbrev Br:Stmt:=top 28
theorem Bs:bN ["line","cells","cell"] ["line"] (aY Br):=by trivial
def Jy:MS :=
  (aB (aC 1 (bK au))
  (aB (bY (cB (aJ vp (ak (aa 0) au))) (mgN 2) (aB (cQ 1 (aa 2))
  (bz (aQ (aj gEq (aJ oX (ak (aj gIx (aa 2) (mC (.int 0))) au)) (mC (.int 2)))) (cQ 1 (bU (ak (mC (.str [])) (ak (aj gIx (aa 2) (mC (.int 1))) (ak (aj gIx (aa 2) (mC (.int 2))) au))))) bI)))
  (aW (aa 1))))
def vz:List D->ao->Res D:=bL 3 Jy
abbrev Jz(Pr:Program)(w:World)(K:Frag)(mg:Str->Option Value)(base:Heap):Prop:=Can Pr w K mg base "line_cells" ["line"] 3 (vSp K mg [.s] (rO K) vz)
theorem XX(Bt:Def K mg "line_cells" Br)
  (B:cg mg)
  (NK:bM K=true)
  (Bu:Jv Pr w K mg base)
  (Bv:Jr Pr w K mg base):
  Jz Pr w K mg base:=by
 refine cU (k:=2) (b:=Jy) Bt Bs (λ_ _ _ _ _ _=>bj λ_=>cC rfl) [.s] [.o,.v] dG (λ_ _ _ _=>.inl ⟨rfl,Rp.non⟩) (body:=λf cdv A outer s H E hr P=>?_);refine aM ?_ ?_;refine jB (i:=1) Bs.nd rfl (.inl rfl) (eX 0 aH);refine aM ?_ (aV (jU 1));refine fB rfl ?_ (bW (i:=2) Bs.nd rfl (.inl rfl)) ?_;refine ug ?_;refine qt ?_;refine bc ?_;refine fc Bu (hr.mono (by decide)) ?_;refine aD (aG 0) aH;refine aM (iu 1 (aA 2)) ?_;refine aV ?_;refine cX ?_ ?_ dg;refine dq (gb hr) ?_ (aq aF) (cu _);refine aq ?_;refine cV Bv (hr.mono (by decide)) ?_;refine aD ?_ aH
 refine aq ?_;refine bf (aq (aA 2)) (aq aF);refine aV ?_;refine iu 1 ?_;refine fK 3 ?_;refine bH (dM []) ?_;refine bH ?_ ?_;refine bf (aq (aA 2)) (aq aF);refine bH ?_ aH;refine bf (aq (aA 2)) (aq aF)
abbrev Bw:Stmt:=top 29
theorem Bx:bN ["row","room","line","cells","free"] ["row","room","line"] (aY Bw):=by trivial
def JB:MS :=
  (aB (aC 3 (aJ vz (ak (aa 2) au)))
  (aB (aC 4 (aj cF (bK (ak (mC (.tup [.str [32],.str [46],.str [46]])) au)) (aj dO (aj gIx (aa 1) (mC (.int 4))) (aX bF (ak (aa 3) au)))))
  (aW (aj aN (aj aN (aj aN (mSl (aa 0) moN (moS (aj gIx (aa 1) (mC (.int 2))))) (aa 3)) (aa 4)) (mSl (aa 0) (moS (aj aN (aj gIx (aa 1) (mC (.int 2))) (aj gIx (aa 1) (mC (.int 4))))) moN)))))
def oZ:List D->ao->Res D:=bL 5 JB
abbrev JC(Pr:Program)(w:World)(K:Frag)(mg:Str->Option Value)(base:Heap):Prop:=Can Pr w K mg base "drawn_row" ["row","room","line"] 4 (vSp K mg [.s,.s,.s] (rO K) oZ)
theorem X3(By:Def K mg "drawn_row" Bw)
  (B:cg mg)
  (NK:bM K=true)
  (oY:um K mg "BLANK_CELL" [[32],[46],[46]])
  (vA:∃u,mg "BROAD" = some u/\RelV (.int 4) u)
  (vB:∃u,mg "LEFT" = some u/\RelV (.int 2) u)
  (BJ:Jz Pr w K mg base):
  JC Pr w K mg base:=by
 refine cU (k:=3) (b:=JB) By Bx (λ_ _ _ _ _ _=>bj λ_=>bj λ_=>bj λ_=>cC rfl) [.s,.s,.s] [.v,.v] dG (λ_ _ _ _=>.inl ⟨rfl,Rp.non⟩) (body:=λf cdv A outer s H E hr P=>?_);refine aM ?_ ?_;refine bA (i:=3) Bx.nd rfl (.inl rfl) ?_;refine bc ?_;refine fc BJ (hr.mono (by decide)) ?_;refine aD (aG 2) aH;refine aM ?_ ?_;refine bA (i:=4) Bx.nd rfl (.inl rfl) ?_;refine bc ?_;refine aP ir ?_ ?_;refine aL ?_;refine eX 1 ?_;refine bH (Hq (ls:=[[32],[46],[46]]) oY) aH;refine aL ?_;refine aP lZ ?_ ?_;refine aq ?_;refine bf (aG 1) ?_;refine aq ?_;refine jT vA (λ_ _ _=>Rp.int)
 refine aL ?_;refine dU (ms:=[.s]) (hv:=fD) fC B.len_ ?_;refine aD (aq (aA 3)) aH;refine aV ?_;refine lY ?_;refine aP bR ?_ ?_;refine aL ?_;refine aP bR ?_ (aq (aA 4));refine aL ?_;refine aP bR ?_ (aq (aA 3));refine aL ?_;refine lA (aG 0) qi ?_;refine iM ?_;refine bf (aG 1) ?_;refine aq ?_;refine jT vB (λ_ _ _=>Rp.int);refine aL ?_;refine lA (aG 0) ?_ qi;refine iM ?_;refine bc ?_;refine aP bR ?_ ?_;refine aq ?_;refine bf (aG 1) ?_;refine aq ?_;refine jT vB (λ_ _ _=>Rp.int);refine aq ?_;refine bf (aG 1) ?_;refine aq ?_;refine jT vA (λ_ _ _=>Rp.int)
abbrev vC:Stmt:=top 30
theorem vD:bN ["picture","room","lines","rows","place","line"] ["picture","room","lines"] (aY vC):=by trivial
def JD:MS :=
  (aB (aC 3 (cI (cB (aa 0)) 1 [] (mgN 0) cT (mMl (aX jE (ak (aa 0) au)))))
  (aB (bY (dB (ak (aj gIx (aa 1) (mC (.int 3))) au)) (mgN 4) (aB (aC 5 (mIf (aQ (aj gLt (aa 4) (aX bF (ak (aa 2) au)))) (aj gIx (aa 2) (aa 4)) (bK au)))
  (mq 3 (aj aN (aj gIx (aa 1) (mC (.int 1))) (aa 4)) (mMl (aJ oZ (ak (aj gIx (aa 3) (aj aN (aj gIx (aa 1) (mC (.int 1))) (aa 4))) (ak (aa 1) (ak (aa 5) au))))))))
  (aW (aa 3))))
def o7:List D->ao->Res D:=bL 6 JD
abbrev JF(Pr:Program)(w:World)(K:Frag)(mg:Str->Option Value)(base:Heap):Prop:=Can Pr w K mg base "drawn" ["picture","room","lines"] 5 (vSp K mg [.s,.s,.s] (rO K) o7)
theorem X4(BK:Def K mg "drawn" vC)
  (B:cg mg)
  (NK:bM K=true)
  (BL:∃u,mg "TALL" = some u/\RelV (.int 3) u)
  (vG:∃u,mg "TOP" = some u/\RelV (.int 1) u)
  (BP:JC Pr w K mg base):
  JF Pr w K mg base:=by
 refine cU (k:=4) (b:=JD) BK vD (λ_ _ _ _ _ _=>bj λ_=>bj λ_=>bj λ_=>cC rfl) [.s,.s,.s] [.o,.v,.v] dG (λ_ _ _ _=>.inl ⟨rfl,Rp.non⟩) (body:=λf cdv A outer s H E hr P=>?_);refine aM ?_ ?_;refine GK (i:=3) (aY vC) ["picture","room","lines","rows","place","line"] ["row"] [] vD.nd rfl (.inl rfl) rfl (jH (aG 0)) (λ_ _ _ _ P=>?_) (λ_ _ _ _ P=>?_) (λ_ _ _ _ P=>?_);exact bW (i:=0) (show(bC ["picture","room","lines","rows","place","line"] ["row"] []).Nodup by decide +kernel) rfl (.inl rfl);exact jC;refine oA ?_;refine t8 (ms:=[.s]) (hv:=qp) xT B.list_ ?_
 refine aD (aq (aA 0)) aH;refine aM ?_ (aV (jU 3));refine fB rfl ?_ (bW (i:=4) vD.nd rfl (.inl rfl)) ?_;refine jG B.range_ ?_;refine aD ?_ aH;refine aq ?_;refine bf (aG 1) ?_;refine aq ?_;refine jT BL (λ_ _ _=>Rp.int);refine aM ?_ ?_;refine bA (i:=5) vD.nd rfl (.inl rfl) ?_;refine qd ?_ ?_ ?_;refine dq tZ (aq (aA 4)) ?_ (cu _);refine aL ?_;refine dU (ms:=[.s]) (hv:=fD) fC B.len_ ?_;refine aD (aG 2) aH;refine bf (aG 2) (aq (aA 4));refine bc (eX 0 aH);refine aV ?_;refine Uz 3 ?_ ?_;refine oA ?_;refine fc BP (hr.mono (by decide)) ?_;refine aD ?_ ?_
 refine aq ?_;refine bf (aG 3) ?_;refine aL ?_;refine aP bR ?_ (aq (aA 4));refine aq ?_;refine bf (aG 1) ?_;refine aq ?_;refine jT vG (λ_ _ _=>Rp.int);refine aD (aG 1) ?_;refine aD (aq (aA 5)) aH;refine bc ?_;refine aP bR ?_ (aq (aA 4));refine aq ?_;refine bf (aG 1) ?_;refine aq ?_;refine jT vG (λ_ _ _=>Rp.int)
abbrev BR:Stmt:=top 32
theorem BV:bN ["_law_script","_law_k","_law_number"] ["_law_script","_law_k"] (aY BR):=by trivial
def rM:MS :=
  (aB (bz (aQ (aj gLt (aa 1) (aX bF (ak (aa 0) au)))) (aW (aj gIx (aa 0) (aa 1))) bI)
  (aB (aC 2 (aj aN (aj cF (aj cF (aa 1) (aa 1)) (mC (.int 7919))) (mC (.int 104729))))
  (aB (bz (aQ (aj gGt (aX bF (ak (aa 0) au)) (mC (.int 0)))) (aC 2 (aj aN (aa 2) (aj cF (aj bw (aj gIx (aa 0) (aj bw (aa 1) (aX bF (ak (aa 0) au)))) (mC (.int 1000003))) (mC (.int 48271))))) bI)
  (aW (aj bw (aj cF (aa 2) (mC (.int 48271))) (mC (.int 2147483647)))))))
def d9:List D->ao->Res D:=bL 3 rM
abbrev BW(Pr:Program)(w:World)(K:Frag)(mg:Str->Option Value)(base:Heap):Prop:=Can Pr w K mg base "_law_cell" ["_law_script","_law_k"] 1 (vSp K mg [.s,.s] (rV K) d9)
theorem X5(BX:Def K mg "_law_cell" BR)
  (B:cg mg)
  (NK:bM K=true):
  BW Pr w K mg base:=by
 refine cU (k:=0) (b:=rM) BX BV (λ_ _ _ _ _ _=>bj λ_=>bj λ_=>cC rfl) [.s,.s] [.v] c7 (λ_ _ _ _=>Rp.non) (body:=λf cdv A outer s H E hr P=>?_);refine aM ?_ ?_;refine cX ?_ ?_ dg;refine dq tZ (aG 1) ?_ (cu _);refine aL ?_;refine dU (ms:=[.s]) (hv:=fD) fC B.len_ ?_;refine aD (aG 0) aH;refine aV ?_;refine cO ?_;refine bf (aG 0) (aG 1);refine aM ?_ ?_;refine bA (i:=2) BV.nd rfl (.inl rfl) ?_;refine bc ?_;refine aP bR ?_ (aq aF);refine aL ?_;refine aP ir ?_ (aq aF);refine aL ?_;refine aP ir (aG 1) (aG 1);refine aM ?_ ?_;refine cX ?_ ?_ dg
 refine dq xR ?_ (aq aF) (cu _);refine aL ?_;refine dU (ms:=[.s]) (hv:=fD) fC B.len_ ?_;refine aD (aG 0) aH;refine aV ?_;refine bA (i:=2) BV.nd rfl (.inl rfl) ?_;refine bc ?_;refine aP bR (aq (aA 2)) ?_;refine aL ?_;refine aP ir ?_ (aq aF);refine aL ?_;refine aP dh ?_ (aq aF);refine aq ?_;refine bf (aG 0) ?_;refine aL ?_;refine aP dh (aG 1) ?_;refine aL ?_;refine dU (ms:=[.s]) (hv:=fD) fC B.len_ ?_;refine aD (aG 0) aH;refine aV ?_;refine cO ?_;refine bc ?_;refine aP dh ?_ (aq aF);refine aL ?_;refine aP ir (aq (aA 2)) (aq aF)
abbrev BZ:Stmt:=top 33
theorem mY:bN ["_law_cell_here","_law_k","_law_rest","_law_turn","_law_number"] ["_law_cell_here","_law_k"] (aY BZ):=by trivial
def JG:MS :=
  (aB (bz (aQ (aj gGt (aa 0) (aj d7 (mC (.int 10)) (mC (.int 18))))) (aB (aC 2 (mG (aa 0)))
  (aB (bY (dB (ak (aa 1) au)) (mgN 3) (aC 2 (aj du (aa 2) (aj d7 (mC (.int 10)) (mC (.int 9))))))
  (aW (aj bw (aa 2) (aj d7 (mC (.int 10)) (mC (.int 9))))))) bI)
  (aB (aC 4 (aj aN (aj bw (aa 0) (mC (.int 2147483647))) (mC (.int 7919))))
  (aB (bY (dB (ak (aj aN (aa 1) (mC (.int 2))) au)) (mgN 3) (aC 4 (aj bw (aj aN (aj cF (aa 4) (mC (.int 48271))) (mC (.int 104729))) (mC (.int 2147483629)))))
  (aW (aj du (aj bw (aj cF (aa 4) (aa 4)) (mC (.int 998244353))) (mC (.int 11)))))))
def dW:List D->ao->Res D:=bL 5 JG
abbrev Ca(Pr:Program)(w:World)(K:Frag)(mg:Str->Option Value)(base:Heap):Prop:=Can Pr w K mg base "_law_mix" ["_law_cell_here","_law_k"] 1 (vSp K mg [.s,.s] (rV K) dW)
theorem X6(Cd:Def K mg "_law_mix" BZ)
  (B:cg mg)
  (NK:bM K=true):
  Ca Pr w K mg base:=by
 refine cU (k:=0) (b:=JG) Cd mY (λ_ _ _ _ _ _=>bj λ_=>bj λ_=>cC rfl) [.s,.s] [.v,.v,.v] c7 (λ_ _ _ _=>Rp.non) (body:=λf cdv A outer s H E hr P=>?_);refine aM ?_ ?_;refine cX ?_ ?_ dg;refine dq xR (aG 0) ?_ (cu _);refine aL ?_;refine aP nU (aq aF) (aq aF);refine aM ?_ ?_;refine bA (i:=2) mY.nd rfl (.inl rfl) (dY (aG 0));refine aM ?_ ?_;refine fB rfl ?_ (bW (i:=3) mY.nd rfl (.inl rfl)) ?_;refine jG B.range_ ?_;refine aD (aG 1) aH;refine aV ?_;refine bA (i:=2) mY.nd rfl (.inl rfl) ?_;refine bc ?_;refine aP nT (aq (aA 2)) ?_;refine aL ?_;refine aP nU (aq aF) (aq aF)
 refine aV ?_;refine cO ?_;refine bc ?_;refine aP dh (aq (aA 2)) ?_;refine aL ?_;refine aP nU (aq aF) (aq aF);refine aM ?_ ?_;refine bA (i:=4) mY.nd rfl (.inl rfl) ?_;refine bc ?_;refine aP bR ?_ (aq aF);refine aL ?_;refine aP dh (aG 0) (aq aF);refine aM ?_ ?_;refine fB rfl ?_ (bW (i:=3) mY.nd rfl (.inl rfl)) ?_;refine jG B.range_ ?_;refine aD ?_ aH;refine aL ?_;refine aP bR (aG 1) (aq aF);refine aV ?_;refine bA (i:=4) mY.nd rfl (.inl rfl) ?_;refine bc ?_;refine aP dh ?_ (aq aF);refine aL ?_;refine aP bR ?_ (aq aF);refine aL ?_;refine aP ir (aq (aA 4)) (aq aF)
 refine aV ?_;refine cO ?_;refine bc ?_;refine aP nT ?_ (aq aF);refine aL ?_;refine aP dh ?_ (aq aF);refine aL ?_;refine aP ir (aq (aA 4)) (aq (aA 4))
abbrev vH:Stmt:=top 34
theorem Ce:bN ["_law_found","_law_due","_law_k"] ["_law_found","_law_due"] (aY vH):=by trivial
def mZ(self:List D->ao->Res D):MS :=
  (aB (bz (bZ (eY "bool" (aa 1))) (aW (ik (eY "bool" (aa 0)) (aj gEq (aa 0) (aa 1)))) bI)
  (aB (bz (bZ (eY "int" (aa 1))) (aW (ik (eY "int" (aa 0)) (ik (xG (eY "bool" (aa 0))) (aj gEq (aa 0) (aa 1))))) bI)
  (aB (bz (bZ (eY "str" (aa 1))) (aW (ik (eY "str" (aa 0)) (aj gEq (aa 0) (aa 1)))) bI)
  (aB (bz (bZ (eY "tuple" (aa 1))) (bz (fM (bZ (eY "tuple" (aa 0)))) (aW (mC (.bl false))) bI) (bz (fM (bZ (eY "list" (aa 0)))) (aW (mC (.bl false))) bI))
  (aB (bz (aQ (aj gNe (aX bF (ak (aa 0) au)) (aX bF (ak (aa 1) au)))) (aW (mC (.bl false))) bI)
  (aB (bY (dB (ak (aX bF (ak (aa 1) au)) au)) (mgN 2) (bz (fM (bZ (aJ self (ak (aj gIx (aa 0) (aa 2)) (ak (aj gIx (aa 1) (aa 2)) au))))) (aW (mC (.bl false))) bI))
  (aW (mC (.bl true)))))))))
def gU:Nat->List D->ao->Res D
 | 0=>bL 3 xH
 |n+1=>bL 3 (mZ (gU n))
def o8:List D->ao->Res D:=gU 6
abbrev X7(Pr:Program)(w:World)(K:Frag)(mg:Str->Option Value)(base:Heap):Prop:=Can Pr w K mg base "_law_alike" ["_law_found","_law_due"] 7 (vSp K mg [.s,.s] (rV K) o8)
theorem JH(m5:Def K mg "_law_alike" vH)
  (B:cg mg)
  (NK:bM K=true):
  ∀n:Nat,Can Pr w K mg base "_law_alike" ["_law_found","_law_due"] (0+n+1) (vSp K mg [.s,.s] (rV K) (gU n))
 | 0=>cU (k:=0) (b:=xH) m5 Ce (λ_ _ _ _ _ _=>bj λ_=>bj λ_=>cC rfl) [.s,.s] [.v] c7 (λ_ _ _ _=>Rp.non) (body:=λf cdv A outer s H E hr P=>Vd)
 |n+1=>by
  have rN:=JH m5 B NK n;refine cU (k:=0+n+1) (b:=mZ (gU n)) m5 Ce (λ_ _ _ _ _ _=>bj λ_=>bj λ_=>cC rfl) [.s,.s] [.v] c7 (λ_ _ _ _=>Rp.non) (body:=λf cdv A outer s H E hr P=>?_);refine aM ?_ ?_;refine cX ?_ ?_ dg;refine f9 ?_;refine aL (jF "bool" (hb:=xV) B.isinstance_ B.bool_ (aG 1));refine aV ?_;refine cO ?_;refine nM ?_ ?_;refine bc (jF "bool" (hb:=xV) B.isinstance_ B.bool_ (aG 0));refine qb ?_;refine bc ?_;refine iI (gb hr) (aG 0) (aG 1) (cu _);refine aM ?_ ?_;refine cX ?_ ?_ dg;refine f9 ?_;refine aL (jF "int" (hb:=xU) B.isinstance_ B.int_ (aG 1))
  refine aV ?_;refine cO ?_;refine nM ?_ ?_;refine bc (jF "int" (hb:=xU) B.isinstance_ B.int_ (aG 0));refine nM ?_ ?_;refine Tc ?_;refine bc (jF "bool" (hb:=xV) B.isinstance_ B.bool_ (aG 0));refine qb ?_;refine bc ?_;refine iI (gb hr) (aG 0) (aG 1) (cu _);refine aM ?_ ?_;refine cX ?_ ?_ dg;refine f9 ?_;refine aL (jF "str" (hb:=G7) B.isinstance_ B.str_ (aG 1));refine aV ?_;refine cO ?_;refine nM ?_ ?_;refine bc (jF "str" (hb:=G7) B.isinstance_ B.str_ (aG 0));refine qb ?_;refine bc ?_;refine iI (gb hr) (aG 0) (aG 1) (cu _);refine aM ?_ ?_;refine cX ?_ ?_ ?_
  refine f9 ?_;refine aL (jF "tuple" (hb:=G8) B.isinstance_ B.tuple_ (aG 1));refine aV ?_;refine cX ?_ ?_ dg;refine nJ ?_;refine f9 ?_;refine aL (jF "tuple" (hb:=G8) B.isinstance_ B.tuple_ (aG 0));refine aV (cO gG);refine aV ?_;refine cX ?_ ?_ dg;refine nJ ?_;refine f9 ?_;refine aL (jF "list" (hb:=qp) B.isinstance_ B.list_ (aG 0));refine aV (cO gG);refine aM ?_ ?_;refine cX ?_ ?_ dg;refine dq (jX hr) ?_ ?_ (cu _);refine aL ?_;refine dU (ms:=[.s]) (hv:=fD) fC B.len_ ?_;refine aD (aG 0) aH;refine aL ?_;refine dU (ms:=[.s]) (hv:=fD) fC B.len_ ?_;refine aD (aG 1) aH
  refine aV (cO gG);refine aM ?_ ?_;refine fB rfl ?_ (bW (i:=2) Ce.nd rfl (.inl rfl)) ?_;refine jG B.range_ ?_;refine aD ?_ aH;refine aL ?_;refine dU (ms:=[.s]) (hv:=fD) fC B.len_ ?_;refine aD (aG 1) aH;refine aV ?_;refine cX ?_ ?_ dg;refine nJ ?_;refine f9 ?_;refine aq ?_;refine cV rN (hr.mono (by omega)) ?_;refine aD ?_ ?_;refine aq ?_;refine bf (aG 0) (aq (aA 2));refine aD ?_ aH;refine aq ?_;refine bf (aG 1) (aq (aA 2));refine aV (cO gG);refine aV (cO gG)
theorem X8(m5:Def K mg "_law_alike" vH)
  (B:cg mg)
  (NK:bM K=true):
  Can Pr w K mg base "_law_alike" ["_law_found","_law_due"] 7 (vSp K mg [.s,.s] (rV K) o8):=JH m5 B NK 6
abbrev vI:Stmt:=top 35
theorem Yb:bN ["_law_picture"] ["_law_picture"] (aY vI):=by trivial
def JK:MS :=
  (aW (cI (cB (aa 0)) 1 [] (mgN 0) cT (mMl (aX jE (ak (aa 0) au)))))
def lL:List D->ao->Res D:=bL 1 JK
abbrev JL(Pr:Program)(w:World)(K:Frag)(mg:Str->Option Value)(base:Heap):Prop:=Can Pr w K mg base "_law_copy" ["_law_picture"] 1 (vSp K mg [.s] (rO K) lL)
theorem Yc(Cg:Def K mg "_law_copy" vI)
  (B:cg mg)
  (NK:bM K=true):
  JL Pr w K mg base:=by
 refine cU (k:=0) (b:=JK) Cg Yb (λ_ _ _ _ _ _=>bj λ_=>cC rfl) [.s] [] dG (λ_ _ _ _=>.inl ⟨rfl,Rp.non⟩) (body:=λf cdv A outer s H E hr P=>?_);refine aV ?_;refine lY ?_;refine lz (aY vI) ["_law_picture"] ["_law_row"] [] rfl (jH (aG 0)) (λ_ _ _ _ P=>?_) (λ_ _ _ _ P=>?_) (λ_ _ _ _ P=>?_);exact bW (i:=0) (show(bC ["_law_picture"] ["_law_row"] []).Nodup by decide +kernel) rfl (.inl rfl);exact jC;refine oA ?_;refine t8 (ms:=[.s]) (hv:=qp) xT B.list_ ?_;refine aD (aq (aA 0)) aH
abbrev Ci:Stmt:=top 36
theorem lM:bN ["_law_script","_law_high","_law_wide","_law_rooms_here","_law_left","_law_k","_law_cell_here","_law_top","_law_broad"] ["_law_script","_law_high","_law_wide"] (aY Ci):=by trivial
def JM:MS :=
  (aB (aC 3 (bK au))
  (aB (aC 4 (mC (.int 0)))
  (aB (bY (dB (ak (mC (.int 3)) au)) (mgN 5) (aB (aC 6 (aJ d9 (ak (aa 0) (ak (aj aN (mC (.int 1)) (aa 5)) au))))
  (bz (aQ (aj gLe (aj aN (aa 4) (mC (.int 2))) (aa 2))) (aB (aC 7 (aj bw (aJ dW (ak (aa 6) (ak (mC (.int 2)) au))) (aa 1)))
  (aB (aC 8 (aj aN (mC (.int 2)) (aj bw (aJ dW (ak (aa 6) (ak (mC (.int 4)) au))) (aj dO (aj dO (aa 2) (aa 4)) (mC (.int 1))))))
  (aB (cQ 3 (bU (ak (aj gIx (mC (.str [97,98,99])) (aa 5)) (ak (aa 7) (ak (aa 4) (ak (aj aN (mC (.int 1)) (aj bw (aJ dW (ak (aa 6) (ak (mC (.int 3)) au))) (aj dO (aa 1) (aa 7)))) (ak (aa 8) (ak (mC (.str [99,101,108,108,115])) au))))))))
  (aC 4 (aj aN (aa 4) (aa 8)))))) bI)))
  (aW (aa 3)))))
def vJ:List D->ao->Res D:=bL 9 JM
abbrev JN(Pr:Program)(w:World)(K:Frag)(mg:Str->Option Value)(base:Heap):Prop:=Can Pr w K mg base "_law_rooms" ["_law_script","_law_high","_law_wide"] 2 (vSp K mg [.s,.s,.s] (rO K) vJ)
theorem Yd(Cj:Def K mg "_law_rooms" Ci)
  (B:cg mg)
  (NK:bM K=true)
  (jM:BW Pr w K mg base)
  (iy:Ca Pr w K mg base):
  JN Pr w K mg base:=by
 refine cU (k:=1) (b:=JM) Cj lM (λ_ _ _ _ _ _=>bj λ_=>bj λ_=>bj λ_=>cC rfl) [.s,.s,.s] [.o,.v,.v,.v,.v,.v] dG (λ_ _ _ _=>.inl ⟨rfl,Rp.non⟩) (body:=λf cdv A outer s H E hr P=>?_);refine aM ?_ ?_;refine jB (i:=3) lM.nd rfl (.inl rfl) (eX 0 aH);refine aM (bA (i:=4) lM.nd rfl (.inl rfl) aF) ?_;refine aM ?_ (aV (jU 3));refine fB rfl ?_ (bW (i:=5) lM.nd rfl (.inl rfl)) ?_;refine jG B.range_ ?_;refine aD (aq aF) aH;refine aM ?_ ?_;refine bA (i:=6) lM.nd rfl (.inl rfl) ?_;refine cV jM (hr.mono (by decide)) ?_;refine aD (aG 0) ?_;refine aD ?_ aH
 refine aL ?_;refine aP bR (aq aF) (aq (aA 5));refine aV ?_;refine cX ?_ ?_ dg;refine dq tY ?_ (aG 2) (cu _);refine aL ?_;refine aP bR (aq (aA 4)) (aq aF);refine aM ?_ ?_;refine bA (i:=7) lM.nd rfl (.inl rfl) ?_;refine bc ?_;refine aP dh ?_ (aG 1);refine aq ?_;refine cV iy (hr.mono (by decide)) ?_;refine aD (aq (aA 6)) ?_;refine aD (aq aF) aH;refine aM ?_ ?_;refine bA (i:=8) lM.nd rfl (.inl rfl) ?_;refine bc ?_;refine aP bR (aq aF) ?_;refine aL ?_;refine aP dh ?_ ?_;refine aq ?_;refine cV iy (hr.mono (by decide)) ?_;refine aD (aq (aA 6)) ?_
 refine aD (aq aF) aH;refine aL ?_;refine aP lZ ?_ (aq aF);refine aL ?_;refine aP lZ (aG 2) (aq (aA 4));refine aM ?_ ?_;refine iu 3 ?_;refine fK 6 ?_;refine bH ?_ ?_;refine bf (aq (dM [97,98,99])) (aq (aA 5));refine bH (aA 7) ?_;refine bH (aA 4) ?_;refine bH ?_ ?_;refine bc ?_;refine aP bR (aq aF) ?_;refine aL ?_;refine aP dh ?_ ?_;refine aq ?_;refine cV iy (hr.mono (by decide)) ?_;refine aD (aq (aA 6)) ?_;refine aD (aq aF) aH;refine aL ?_;refine aP lZ (aG 1) (aq (aA 7));refine bH (aA 8) ?_;refine bH (dM [99,101,108,108,115]) aH;refine aV ?_
 refine bA (i:=4) lM.nd rfl (.inl rfl) ?_;refine bc ?_;refine aP bR (aq (aA 4)) (aq (aA 8))
abbrev Ck:Stmt:=top 37
theorem m6:bN ["_law_cell_here","_law_many","_law_number","_law_rest","_law_found","_law_k"] ["_law_cell_here","_law_many"] (aY Ck):=by trivial
def JP:MS :=
  (aB (aC 2 (aj aN (aj cF (aj aN (aj bw (aa 0) (mC (.int 2147483647))) (mC (.int 7919))) (mC (.int 48271))) (mC (.int 104729))))
  (aB (aC 3 (mG (aa 0)))
  (aB (aC 4 (bK au))
  (aB (bY (dB (ak (aa 1) au)) (mgN 5) (bz (aQ (aj gGt (aa 0) (aj d7 (mC (.int 10)) (mC (.int 18))))) (aB (cQ 4 (aj bw (aa 3) (aj d7 (mC (.int 10)) (mC (.int 9)))))
  (aC 3 (aj du (aa 3) (aj d7 (mC (.int 10)) (mC (.int 9)))))) (aB (aC 2 (aj bw (aj aN (aj cF (aa 2) (mC (.int 48271))) (mC (.int 104729))) (mC (.int 2147483629))))
  (cQ 4 (aj du (aj bw (aj cF (aa 2) (aa 2)) (mC (.int 998244353))) (mC (.int 11)))))))
  (aW (aa 4))))))
def vK:List D->ao->Res D:=bL 6 JP
abbrev JQ(Pr:Program)(w:World)(K:Frag)(mg:Str->Option Value)(base:Heap):Prop:=Can Pr w K mg base "_law_stream" ["_law_cell_here","_law_many"] 1 (vSp K mg [.s,.s] (rO K) vK)
theorem Ye(Cm:Def K mg "_law_stream" Ck)
  (B:cg mg)
  (NK:bM K=true):
  JQ Pr w K mg base:=by
 refine cU (k:=0) (b:=JP) Cm m6 (λ_ _ _ _ _ _=>bj λ_=>bj λ_=>cC rfl) [.s,.s] [.v,.v,.o,.v] dG (λ_ _ _ _=>.inl ⟨rfl,Rp.non⟩) (body:=λf cdv A outer s H E hr P=>?_);refine aM ?_ ?_;refine bA (i:=2) m6.nd rfl (.inl rfl) ?_;refine bc ?_;refine aP bR ?_ (aq aF);refine aL ?_;refine aP ir ?_ (aq aF);refine aL ?_;refine aP bR ?_ (aq aF);refine aL ?_;refine aP dh (aG 0) (aq aF);refine aM ?_ ?_;refine bA (i:=3) m6.nd rfl (.inl rfl) (dY (aG 0));refine aM ?_ ?_;refine jB (i:=4) m6.nd rfl (.inl rfl) (eX 0 aH);refine aM ?_ (aV (jU 4));refine fB rfl ?_ (bW (i:=5) m6.nd rfl (.inl rfl)) ?_
 refine jG B.range_ ?_;refine aD (aG 1) aH;refine aV ?_;refine cX ?_ ?_ ?_;refine dq xR (aG 0) ?_ (cu _);refine aL ?_;refine aP nU (aq aF) (aq aF);refine aM ?_ ?_;refine iu 4 ?_;refine bc ?_;refine aP dh (aq (aA 3)) ?_;refine aL ?_;refine aP nU (aq aF) (aq aF);refine aV ?_;refine bA (i:=3) m6.nd rfl (.inl rfl) ?_;refine bc ?_;refine aP nT (aq (aA 3)) ?_;refine aL ?_;refine aP nU (aq aF) (aq aF);refine aM ?_ ?_;refine bA (i:=2) m6.nd rfl (.inl rfl) ?_;refine bc ?_;refine aP dh ?_ (aq aF);refine aL ?_;refine aP bR ?_ (aq aF);refine aL ?_
 refine aP ir (aq (aA 2)) (aq aF);refine aV ?_;refine iu 4 ?_;refine bc ?_;refine aP nT ?_ (aq aF);refine aL ?_;refine aP dh ?_ (aq aF);refine aL ?_;refine aP ir (aq (aA 2)) (aq (aA 2))
abbrev Cq:Stmt:=top 38
theorem j9:bN ["_law_cell_here","_law_broad","_law_xs","_law_room","_law_line_here","_law_k","_law_number","_law_sign","_law_size"] ["_law_cell_here","_law_broad"] (aY Cq):=by trivial
def JR:MS :=
  (aB (aC 2 (aJ vK (ak (aa 0) (ak (aj aN (aa 1) (mC (.int 2))) au))))
  (aB (aC 3 (aj dO (aa 1) (aj cF (aj bw (aj gIx (aa 2) (mC (.int 0))) (aj aN (aa 1) (mC (.int 1)))) (aj bw (aj gIx (aa 2) (mC (.int 1))) (mC (.int 2))))))
  (aB (aC 4 (bK au))
  (aB (bY (dB (ak (aa 1) au)) (mgN 5) (aB (aC 6 (aj gIx (aa 2) (aj aN (mC (.int 2)) (aa 5))))
  (aB (aC 7 (aj gIx (mC (.str [97,98,99,100,101,102,103,104,32,120,121,122,91,93,46,44,59,32,81,82,83,84,85,86,87])) (aj bw (aj du (aa 6) (mC (.int 81))) (mC (.int 25)))))
  (aB (aC 8 (aj aN (mC (.int 1)) (aX lD (ak (aj (gIn false) (aa 7) (mC (.str [81,82,83,84,85,86,87]))) au))))
  (aB (bz (aQ (aj gLe (aa 8) (aa 3))) (cQ 4 (bU (ak (aa 7) (ak (aj gIx (mC (.str [97,98,46])) (aj bw (aa 6) (mC (.int 3)))) (ak (aj gIx (mC (.str [97,46,46])) (aj bw (aj du (aa 6) (mC (.int 3))) (mC (.int 3)))) (ak (aa 5) au)))))) bI)
  (aC 3 (aj dO (aa 3) (aa 8))))))))
  (aW (aa 4))))))
def rP:List D->ao->Res D:=bL 9 JR
abbrev JS(Pr:Program)(w:World)(K:Frag)(mg:Str->Option Value)(base:Heap):Prop:=Can Pr w K mg base "_law_line" ["_law_cell_here","_law_broad"] 2 (vSp K mg [.s,.s] (rO K) rP)
theorem Yg(Cr:Def K mg "_law_line" Cq)
  (B:cg mg)
  (NK:bM K=true)
  (Cu:JQ Pr w K mg base):
  JS Pr w K mg base:=by
 refine cU (k:=1) (b:=JR) Cr j9 (λ_ _ _ _ _ _=>bj λ_=>bj λ_=>cC rfl) [.s,.s] [.v,.v,.o,.v,.v,.v,.v] dG (λ_ _ _ _=>.inl ⟨rfl,Rp.non⟩) (body:=λf cdv A outer s H E hr P=>?_);refine aM ?_ ?_;refine bA (i:=2) j9.nd rfl (.inl rfl) ?_;refine bc ?_;refine fc Cu (hr.mono (by decide)) ?_;refine aD (aG 0) ?_;refine aD ?_ aH;refine aL ?_;refine aP bR (aG 1) (aq aF);refine aM ?_ ?_;refine bA (i:=3) j9.nd rfl (.inl rfl) ?_;refine bc ?_;refine aP lZ (aG 1) ?_;refine aL ?_;refine aP ir ?_ ?_;refine aL ?_;refine aP dh ?_ ?_;refine aq ?_;refine bf (aq (aA 2)) (aq aF)
 refine aL ?_;refine aP bR (aG 1) (aq aF);refine aL ?_;refine aP dh ?_ (aq aF);refine aq ?_;refine bf (aq (aA 2)) (aq aF);refine aM ?_ ?_;refine jB (i:=4) j9.nd rfl (.inl rfl) (eX 0 aH);refine aM ?_ (aV (jU 4));refine fB rfl ?_ (bW (i:=5) j9.nd rfl (.inl rfl)) ?_;refine jG B.range_ ?_;refine aD (aG 1) aH;refine aM ?_ ?_;refine bA (i:=6) j9.nd rfl (.inl rfl) ?_;refine bf (aq (aA 2)) ?_;refine aL ?_;refine aP bR (aq aF) (aq (aA 5));refine aM ?_ ?_;refine bA (i:=7) j9.nd rfl (.inl rfl) ?_;refine bf (aq (dM [97,98,99,100,101,102,103,104,32,120,121,122,91,93,46,44,59,32,81,82,83,84,85,86,87])) ?_
 refine aL ?_;refine aP dh ?_ (aq aF);refine aL ?_;refine aP nT (aq (aA 6)) (aq aF);refine aM ?_ ?_;refine bA (i:=8) j9.nd rfl (.inl rfl) ?_;refine bc ?_;refine aP bR (aq aF) ?_;refine aL ?_;refine t8 (ms:=[.s]) (hv:=xU) T7 B.int_ ?_;refine aD ?_ aH;refine aL ?_;refine iI G6 (aq (aA 7)) (aq (dM [81,82,83,84,85,86,87])) (by with_unfolding_all rfl);refine aM ?_ ?_;refine cX ?_ ?_ dg;refine dq tY (aq (aA 8)) (aq (aA 3)) (cu _);refine aV ?_;refine iu 4 ?_;refine fK 4 ?_;refine bH (aA 7) ?_;refine bH ?_ ?_;refine bf (aq (dM [97,98,46])) ?_;refine aL ?_
 refine aP dh (aq (aA 6)) (aq aF);refine bH ?_ ?_;refine bf (aq (dM [97,46,46])) ?_;refine aL ?_;refine aP dh ?_ (aq aF);refine aL ?_;refine aP nT (aq (aA 6)) (aq aF);refine bH (aA 5) aH;refine aV ?_;refine bA (i:=3) j9.nd rfl (.inl rfl) ?_;refine bc ?_;refine aP lZ (aq (aA 3)) (aq (aA 8))
abbrev Cw:Stmt:=top 39
theorem rQ:bN ["_law_picture","_law_row","_law_k","_law_behind","_law_great"] ["_law_picture"] (aY Cw):=by trivial
def JT:MS :=
  (aB (bY (cB (aa 0)) (mgN 1) (aB (bY (dB (ak (aX bF (ak (aa 1) au)) au)) (mgN 2) (aB (aC 3 (ik (aj gLt (aj aN (aa 2) (mC (.int 1))) (aX bF (ak (aa 1) au))) (aj gEq (aj gIx (aj gIx (aa 1) (aj aN (aa 2) (mC (.int 1)))) (mC (.int 0))) (mC (.str [])))))
  (aB (aC 4 (ik (aj gNe (aj gIx (aj gIx (aa 1) (aa 2)) (mC (.int 0))) (mC (.str []))) (aj (gIn false) (aj gIx (aj gIx (aa 1) (aa 2)) (mC (.int 0))) (mC (.str [81,82,83,84,85,86,87])))))
  (bz (fL (aQ (aj gNe (aa 4) (aa 3))) (lg (bZ (aa 3)) (aQ (aj gNe (mSl (aj gIx (aa 1) (aj aN (aa 2) (mC (.int 1)))) (moS (mC (.int 1))) moN) (mSl (aj gIx (aa 1) (aa 2)) (moS (mC (.int 1))) moN))))) (aW (mC (.bl false))) bI))))
  (bz (aQ (aj gEq (aj gIx (aj gIx (aa 1) (mC (.int 0))) (mC (.int 0))) (mC (.str [])))) (aW (mC (.bl false))) bI)))
  (aW (mC (.bl true))))
def rR:List D->ao->Res D:=bL 5 JT
abbrev JV(Pr:Program)(w:World)(K:Frag)(mg:Str->Option Value)(base:Heap):Prop:=Can Pr w K mg base "_law_formed" ["_law_picture"] 1 (vSp K mg [.s] (rV K) rR)
theorem Yh(Cy:Def K mg "_law_formed" Cw)
  (B:cg mg)
  (NK:bM K=true):
  JV Pr w K mg base:=by
 refine cU (k:=0) (b:=JT) Cy rQ (λ_ _ _ _ _ _=>bj λ_=>cC rfl) [.s] [.v,.v,.v,.v] c7 (λ_ _ _ _=>Rp.non) (body:=λf cdv A outer s H E hr P=>?_);refine aM ?_ ?_;refine fB rfl (ug (ue 0)) (bW (i:=1) rQ.nd rfl (.inl rfl)) ?_;refine aM ?_ ?_;refine fB rfl ?_ (bW (i:=2) rQ.nd rfl (.inl rfl)) ?_;refine jG B.range_ ?_;refine aD ?_ aH;refine aL ?_;refine dU (ms:=[.s]) (hv:=fD) fC B.len_ ?_;refine aD (aq (aA 1)) aH;refine aM ?_ ?_;refine bA (i:=3) rQ.nd rfl (.inl rfl) ?_;refine nM ?_ ?_;refine bc ?_;refine iI tZ ?_ ?_ (cu _);refine aL ?_;refine aP bR (aq (aA 2)) (aq aF)
 refine aL ?_;refine dU (ms:=[.s]) (hv:=fD) fC B.len_ ?_;refine aD (aq (aA 1)) aH;refine qb ?_;refine bc ?_;refine iI (gb hr) ?_ (aq (dM [])) (cu _);refine aq ?_;refine bf ?_ (aq aF);refine aq ?_;refine bf (aq (aA 1)) ?_;refine aL ?_;refine aP bR (aq (aA 2)) (aq aF);refine aM ?_ ?_;refine bA (i:=4) rQ.nd rfl (.inl rfl) ?_;refine nM ?_ ?_;refine bc ?_;refine iI (jX hr) ?_ (aq (dM [])) (cu _);refine aq ?_;refine bf ?_ (aq aF);refine aq ?_;refine bf (aq (aA 1)) (aq (aA 2));refine qb ?_;refine bc ?_;refine iI G6 ?_ (aq (dM [81,82,83,84,85,86,87])) (by with_unfolding_all rfl)
 refine aq ?_;refine bf ?_ (aq aF);refine aq ?_;refine bf (aq (aA 1)) (aq (aA 2));refine aV ?_;refine cX ?_ ?_ dg;refine nH ?_;refine pZ ?_ ?_;refine dq (jX hr) (aq (aA 4)) (aq (aA 3)) (cu _);refine tV ?_;refine nH ?_;refine Gw ?_ ?_;refine f9 (aq (aA 3));refine Gv ?_;refine dq (jX hr) ?_ ?_ (cu _);refine aL ?_;refine lA ?_ (iM aF) qi;refine aq ?_;refine bf (aq (aA 1)) ?_;refine aL ?_;refine aP bR (aq (aA 2)) (aq aF);refine aL ?_;refine lA ?_ (iM aF) qi;refine aq ?_;refine bf (aq (aA 1)) (aq (aA 2));refine aV (cO gG);refine aV ?_;refine cX ?_ ?_ dg
 refine dq (gb hr) ?_ (aq (dM [])) (cu _);refine aq ?_;refine bf ?_ (aq aF);refine aq ?_;refine bf (aq (aA 1)) (aq aF);refine aV (cO gG);refine aV (cO gG)
abbrev iz:Stmt:=top 40
theorem fG:bN ["_law_script","_law_high","_law_wide","_law_rooms_here","_law_picture","_law_laid","_law_kept","_law_k","_law_cell_here","_law_room","_law_many","_law_lines","_law_told","_law_writes","_law_again"] ["_law_script"] (aY iz):=by trivial
def JW:MS :=
  (aB (aC 1 (aj aN (mC (.int 1)) (aj bw (aJ dW (ak (aJ d9 (ak (aa 0) (ak (mC (.int 0)) au))) (ak (mC (.int 1)) au))) (mC (.int 6)))))
  (aB (aC 2 (aj aN (mC (.int 2)) (aj bw (aJ dW (ak (aJ d9 (ak (aa 0) (ak (mC (.int 0)) au))) (ak (mC (.int 3)) au))) (aj gIx (bK (ak (mC (.int 8)) (ak (mC (.int 23)) au))) (aj bw (aJ dW (ak (aJ d9 (ak (aa 0) (ak (mC (.int 0)) au))) (ak (mC (.int 4)) au))) (mC (.int 2)))))))
  (aB (aC 3 (aJ vJ (ak (aa 0) (ak (aa 1) (ak (aa 2) au)))))
  (aB (aC 4 (aJ mX (ak (aa 1) (ak (aa 2) au))))
  (aB (aC 5 (aJ mX (ak (aa 1) (ak (aa 2) au))))
  (aB (aC 6 (bK au))
  (aB (bY (nY (ak (mC (.int 5)) (ak (aX lB (ak (mC (.int 7)) (ak (aX lC (ak (mC (.int 17)) (ak (aX bF (ak (aa 0) au)) au))) au))) au))) (mgN 7) (aB (aC 8 (aJ d9 (ak (aa 0) (ak (aa 7) au))))
  (aB (aC 9 (aj gIx (aa 3) (aj bw (aJ dW (ak (aa 8) (ak (mC (.int 0)) au))) (aX bF (ak (aa 3) au)))))
  (aB (aC 10 (aj bw (aJ dW (ak (aa 8) (ak (mC (.int 1)) au))) (aj aN (aj gIx (aa 9) (mC (.int 3))) (mC (.int 1)))))
  (aB (aC 11 (cI (dB (ak (aa 10) au)) 1 [0,7,9] (mgN 0) cT (aJ rP (ak (aJ d9 (ak (aa 1) (ak (aj aN (aj aN (aa 2) (mC (.int 1))) (aa 0)) au))) (ak (aj gIx (aa 3) (mC (.int 4))) au)))))
  (aB (aC 12 (aJ o7 (ak (aa 4) (ak (aa 9) (ak (aa 11) au)))))
  (aB (aC 13 (aJ lK (ak (aa 4) (ak (aa 12) au))))
  (aB (aC 5 (aJ vh (ak (aa 5) (ak (aa 13) au))))
  (aB (bz (fL (fM (bZ (aJ o8 (ak (aa 5) (ak (aJ lL (ak (aa 12) au)) au))))) (fM (bZ (aJ rR (ak (aa 12) au))))) (aW (mC (.bl false))) bI)
  (aB (aC 14 (aJ o7 (ak (aa 12) (ak (aa 9) (ak (aa 11) au)))))
  (aB (bz (fL (aQ (fj true 7 (aa 14) (aa 12))) (fL (aQ (aj gNe (aJ lK (ak (aa 12) (ak (aa 14) au))) (bK au))) (aQ (aj gNe (aj gEq (aJ oW (ak (aa 13) au)) (mC (.int 0))) (fj false 7 (aa 4) (aa 12)))))) (aW (mC (.bl false))) bI)
  (aB (cQ 6 (bU (ak (aa 12) (ak (aJ lL (ak (aa 12) au)) au))))
  (aC 4 (aa 12))))))))))))))
  (aW (aX qj (ak (cI (cB (aa 6)) 2 [] (fO 2 (cP (mgN 0) (cP (mgN 1) fU))) cT (fj false 7 (aa 0) (aa 1))) au))))))))))
def JX:List D->ao->Res D:=bL 15 JW
abbrev Yi(Pr:Program)(w:World)(K:Frag)(mg:Str->Option Value)(base:Heap):Prop:=Can Pr w K mg base "law" ["_law_script"] 8 (vSp K mg [.s] (rV K) JX)
theorem Yj(Cz:Def K mg "law" iz)
  (B:cg mg)
  (NK:bM K=true)
  (iy:Ca Pr w K mg base)
  (jM:BW Pr w K mg base)
  (CG:JN Pr w K mg base)
  (vL:Jx Pr w K mg base)
  (CJ:JS Pr w K mg base)
  (vM:JF Pr w K mg base)
  (vN:Jl Pr w K mg base)
  (CK:Jo Pr w K mg base)
  (rN:X7 Pr w K mg base)
  (vO:JL Pr w K mg base)
  (CN:JV Pr w K mg base)
  (CP:Jq Pr w K mg base):
  Yi Pr w K mg base:=by
 refine cU (k:=7) (b:=JW) Cz fG (λ_ _ _ _ _ _=>bj λ_=>cC rfl) [.s] [.v,.v,.v,.v,.v,.o,.v,.v,.v,.v,.v,.v,.o,.v] c7 (λ_ _ _ _=>Rp.non) (body:=λf cdv A outer s H E hr P=>?_);refine aM ?_ ?_;refine bA (i:=1) fG.nd rfl (.inl rfl) ?_;refine bc ?_;refine aP bR (aq aF) ?_;refine aL ?_;refine aP dh ?_ (aq aF);refine aq ?_;refine cV iy (hr.mono (by decide)) ?_;refine aD ?_ ?_;refine aq ?_;refine cV jM (hr.mono (by decide)) ?_;refine aD (aG 0) ?_;refine aD (aq aF) aH;refine aD (aq aF) aH;refine aM ?_ ?_;refine bA (i:=2) fG.nd rfl (.inl rfl) ?_;refine bc ?_
 refine aP bR (aq aF) ?_;refine aL ?_;refine aP dh ?_ ?_;refine aq ?_;refine cV iy (hr.mono (by decide)) ?_;refine aD ?_ ?_;refine aq ?_;refine cV jM (hr.mono (by decide)) ?_;refine aD (aG 0) ?_;refine aD (aq aF) aH;refine aD (aq aF) aH;refine aq ?_;refine bf ?_ ?_;refine aL ?_;refine eX 2 ?_;refine bH aF ?_;refine bH aF aH;refine aL ?_;refine aP dh ?_ (aq aF);refine aq ?_;refine cV iy (hr.mono (by decide)) ?_;refine aD ?_ ?_;refine aq ?_;refine cV jM (hr.mono (by decide)) ?_;refine aD (aG 0) ?_;refine aD (aq aF) aH;refine aD (aq aF) aH;refine aM ?_ ?_
 refine bA (i:=3) fG.nd rfl (.inl rfl) ?_;refine bc ?_;refine fc CG (hr.mono (by decide)) ?_;refine aD (aG 0) ?_;refine aD (aq (aA 1)) ?_;refine aD (aq (aA 2)) aH;refine aM ?_ ?_;refine bA (i:=4) fG.nd rfl (.inl rfl) ?_;refine bc ?_;refine fc vL (hr.mono (by decide)) ?_;refine aD (aq (aA 1)) ?_;refine aD (aq (aA 2)) aH;refine aM ?_ ?_;refine bA (i:=5) fG.nd rfl (.inl rfl) ?_;refine bc ?_;refine fc vL (hr.mono (by decide)) ?_;refine aD (aq (aA 1)) ?_;refine aD (aq (aA 2)) aH;refine aM ?_ ?_;refine jB (i:=6) fG.nd rfl (.inl rfl) (eX 0 aH);refine aM ?_ ?_
 refine fB rfl ?_ (bW (i:=7) fG.nd rfl (.inr rfl)) ?_;refine Uq B.range_ ?_;refine aD (aq aF) ?_;refine aD ?_ aH;refine aL ?_;refine dU (ms:=[.s,.s]) (hv:=Uc) (TY rfl) B.max_ ?_;refine aD (aq aF) ?_;refine aD ?_ aH;refine aL ?_;refine dU (ms:=[.s,.s]) (hv:=Ud) (T3 rfl) B.min_ ?_;refine aD (aq aF) ?_;refine aD ?_ aH;refine aL ?_;refine dU (ms:=[.s]) (hv:=fD) fC B.len_ ?_;refine aD (aG 0) aH;refine aM ?_ ?_;refine bA (i:=8) fG.nd rfl (.inl rfl) ?_;refine cV jM (hr.mono (by decide)) ?_;refine aD (aG 0) ?_;refine aD (aq (aA 7)) aH;refine aM ?_ ?_;refine bA (i:=9) fG.nd rfl (.inr rfl) ?_
 refine bf (aq (aA 3)) ?_;refine aL ?_;refine aP dh ?_ ?_;refine aq ?_;refine cV iy (hr.mono (by decide)) ?_;refine aD (aq (aA 8)) ?_;refine aD (aq aF) aH;refine aL ?_;refine dU (ms:=[.s]) (hv:=fD) fC B.len_ ?_;refine aD (aq (aA 3)) aH;refine aM ?_ ?_;refine bA (i:=10) fG.nd rfl (.inl rfl) ?_;refine bc ?_;refine aP dh ?_ ?_;refine aq ?_;refine cV iy (hr.mono (by decide)) ?_;refine aD (aq (aA 8)) ?_;refine aD (aq aF) aH;refine aL ?_;refine aP bR ?_ (aq aF);refine aq ?_;refine bf (aq (aA 9)) (aq aF);refine aM ?_ ?_;refine GJ (i:=11) (aY iz) ["_law_script","_law_high","_law_wide","_law_rooms_here","_law_picture","_law_laid","_law_kept","_law_k","_law_cell_here","_law_room","_law_many","_law_lines","_law_told","_law_writes","_law_again"] ["_law_j"] [0,7,9] fG.nd rfl (.inl rfl) rfl ?_ (λ_ _ _ _ P=>?_) (λ_ _ _ _ P=>?_) (λ_ _ _ _ P=>?_)
 refine tW ?_;refine jG B.range_ ?_;refine aD (aq (aA 10)) aH;exact bW (i:=0) (show(bC ["_law_script","_law_high","_law_wide","_law_rooms_here","_law_picture","_law_laid","_law_kept","_law_k","_law_cell_here","_law_room","_law_many","_law_lines","_law_told","_law_writes","_law_again"] ["_law_j"] [0,7,9]).Nodup by decide +kernel) rfl (.inl rfl);exact jC;refine bc ?_;refine fc CJ (hr.mono (by decide)) ?_;refine aD ?_ ?_;refine aq ?_;refine cV jM (hr.mono (by decide)) ?_;refine aD (aG 1) ?_;refine aD ?_ aH;refine aL ?_;refine aP bR ?_ (aq (aA 0));refine aL ?_;refine aP bR (aq (aA 2)) (aq aF)
 refine aD ?_ aH;refine aq ?_;refine bf (aq (aA 3)) (aq aF);refine aM ?_ ?_;refine bA (i:=12) fG.nd rfl (.inl rfl) ?_;refine bc ?_;refine fc vM (hr.mono (by decide)) ?_;refine aD (aq (aA 4)) ?_;refine aD (aq (aA 9)) ?_;refine aD (aq (aA 11)) aH;refine aM ?_ ?_;refine jB (i:=13) fG.nd rfl (.inl rfl) ?_;refine fc vN (hr.mono (by decide)) ?_;refine aD (aq (aA 4)) ?_;refine aD (aq (aA 12)) aH;refine aM ?_ ?_;refine bA (i:=5) fG.nd rfl (.inl rfl) ?_;refine bc ?_;refine fc CK (hr.mono (by decide)) ?_;refine aD (aq (aA 5)) ?_;refine aD (aG 13) aH;refine aM ?_ ?_
 refine cX ?_ ?_ dg;refine nH ?_;refine pZ ?_ ?_;refine nJ ?_;refine f9 ?_;refine aq ?_;refine cV rN (hr.mono (by decide)) ?_;refine aD (aq (aA 5)) ?_;refine aD ?_ aH;refine aL ?_;refine fc vO (hr.mono (by decide)) ?_;refine aD (aq (aA 12)) aH;refine tV ?_;refine nJ ?_;refine f9 ?_;refine aq ?_;refine cV CN (hr.mono (by decide)) ?_;refine aD (aq (aA 12)) aH;refine aV (cO gG);refine aM ?_ ?_;refine bA (i:=14) fG.nd rfl (.inl rfl) ?_;refine bc ?_;refine fc vM (hr.mono (by decide)) ?_;refine aD (aq (aA 12)) ?_;refine aD (aq (aA 9)) ?_;refine aD (aq (aA 11)) aH
 refine aM ?_ ?_;refine cX ?_ ?_ dg;refine nH ?_;refine pZ ?_ ?_;refine Vf 7 hr (aq (aA 14)) (aq (aA 12));refine pZ ?_ ?_;refine dq (jX hr) ?_ ?_ (cu _);refine aL ?_;refine fc vN (hr.mono (by decide)) ?_;refine aD (aq (aA 12)) ?_;refine aD (aq (aA 14)) aH;refine aL (eX 0 aH);refine tV ?_;refine dq (jX hr) ?_ ?_ (cu _);refine aL ?_;refine iI (gb hr) ?_ (aq aF) (cu _);refine aq ?_;refine cV CP (hr.mono (by decide)) ?_;refine aD (aG 13) aH;refine aL ?_;refine Hw 7 hr (aq (aA 4)) (aq (aA 12));refine aV (cO gG);refine aM ?_ ?_;refine iu 6 ?_;refine fK 2 ?_
 refine bH (aA 12) ?_;refine bH ?_ aH;refine bc ?_;refine fc vO (hr.mono (by decide)) ?_;refine aD (aq (aA 12)) aH;refine aV (bA (i:=4) fG.nd rfl (.inl rfl) (aA 12));refine aV ?_;refine cO ?_;refine bc ?_;refine dU (ms:=[.s]) (hv:=Ue) (Ua rfl) B.all_ ?_;refine aD ?_ aH;refine aL ?_;refine lz (aY iz) ["_law_script","_law_high","_law_wide","_law_rooms_here","_law_picture","_law_laid","_law_kept","_law_k","_law_cell_here","_law_room","_law_many","_law_lines","_law_told","_law_writes","_law_again"] ["_law_one","_law_other"] [] rfl (jH (aG 6)) (λ_ _ _ _ P=>?_) (λ_ _ _ _ P=>?_) (λ_ _ _ _ P=>?_)
 refine nQ 2 rfl ?_;refine il (bW (i:=0) (show(bC ["_law_script","_law_high","_law_wide","_law_rooms_here","_law_picture","_law_laid","_law_kept","_law_k","_law_cell_here","_law_room","_law_many","_law_lines","_law_told","_law_writes","_law_again"] ["_law_one","_law_other"] []).Nodup by decide +kernel) rfl (.inl rfl)) ?_;refine il (bW (i:=1) (show(bC ["_law_script","_law_high","_law_wide","_law_rooms_here","_law_picture","_law_laid","_law_kept","_law_k","_law_cell_here","_law_room","_law_many","_law_lines","_law_told","_law_writes","_law_again"] ["_law_one","_law_other"] []).Nodup by decide +kernel) rfl (.inl rfl)) nP
 exact jC
 refine bc ?_;refine Hw 7 hr (aq (aA 0)) (aq (aA 1))
end
theorem aU{g:D->D->Option D}{a b:L2.M D}{ρ:az}{O:ao}{x y z:D}(ha:a ρ O=.ok x O)(hb:b ρ O=.ok y O)(h:g (aZ O x) (aZ O y)=some z):aj g a b ρ O=.ok z O:=by
 rw[yx,ha,aO,hb,aO,h,mJ]
theorem ma1{a:L2.M D}{ρ:az}{O:ao}{x:D}(h:a ρ O=.ok x O):ak a au ρ O=.ok [x] O:=by
 rw[mO,h,aO,uC,aO]
theorem maS{a:L2.M D}{r:L2.M (List D)}{ρ:az}{O:ao}{x:D}{xs:List D}(h:a ρ O=.ok x O)(h2:r ρ O=.ok xs O):ak a r ρ O=.ok (x::xs) O:=by
 rw[mO,h,aO,h2,aO]
theorem m7{m:L2.M (List D)}{ρ:az}{O:ao}{xs:List D}(h:m ρ O=.ok xs O)(hl:xs.length<=1000000):bU m ρ O=.ok (.tup xs) O:=by
 rw[HR,h,aO,if_pos hl]
theorem rY{m:L2.M (List D)}{ρ:az}{O:ao}{xs:List D}(h:m ρ O=.ok xs O)(hl:xs.length<=1000000):bK m ρ O=.ok (.lst xs) O:=by
 rw[Wd,h,aO,if_pos hl]
theorem gk{g:List D->Option D}{m:L2.M (List D)}{ρ:az}{O:ao}{xs:List D}{z:D}(h:m ρ O=.ok xs O)(hg:g (xs.map (aZ O))=some z):aX g m ρ O=.ok z O:=by
 rw[HS,h,aO,hg,mJ]
theorem kh{i:Nat}{m:L2.M D}{ρ:az}{O:ao}{d:D}{ds:List D}(hm:m ρ O=.ok d O)(h:ρ[i]?=some (some (.lst ds)))(hl:ds.length<1000000):cQ i m ρ O=.nx (ρ.set i (some (.lst (ds++[d])))) O:=by
 rw[yJ,hm,yK h hl]
theorem bQ{i:Nat}{m:L2.M D}{ρ:az}{O:ao}{d:D}(h:m ρ O=.ok d O):aC i m ρ O=.nx (ρ.set i (some d)) O:=by
 rw[yF,h,yG]
theorem cL{c:List D->ao->Res D}{ma:L2.M (List D)}{ρ:az}{O:ao}{ds:List D}(h:ma ρ O=.ok ds O):aJ c ma ρ O=c ds O:=by
 rw[yD,h,aO]
theorem fX{m:L2.M D}{ρ:az}{O:ao}{b:Bool}(h:m ρ O=.ok (.bl b) O):aQ m ρ O=.ok b O:=by
 rw[ux,h,aO,HQ]
theorem gn{t:L2.M Bool}{a b:MS}{ρ:az}{O:ao}(h:t ρ O=.ok true O):bz t a b ρ O=a ρ O:=by
 rw[uE,h,uF,if_pos rfl]
theorem dD{t:L2.M Bool}{a b:MS}{ρ:az}{O:ao}(h:t ρ O=.ok false O):bz t a b ρ O=b ρ O:=by
 rw[uE,h,uF,if_neg zk]
theorem rZ{m:L2.M D}{ρ:az}{O:ao}{l:List D}(h:m ρ O=.ok (.lst l) O):aX bF (ak m au) ρ O=.ok (.int (l.length:Int)) O:=gk (ma1 h) rfl
theorem lN{m:L2.M D}{ρ:az}{O:ao}{n:Nat}(h:m ρ O=.ok (.int (n:Int)) O)(hn:n<=1000000):dB (ak m au) ρ O=.ok (cZ 0 n) O:=by
 rw[Wk,ma1 h,aO];show(if(n:Int)<=1000000000/\-1000000000<=(n:Int) then Res.ok (cZ 0 (n:Int).toNat) O else .no)=_;rw[if_pos ⟨by omega,by omega⟩,Int.toNat_natCast]
theorem fH{a b:L2.M D}{ρ:az}{O:ao}{i j:Int}(ha:a ρ O=.ok (.int i) O)(hb:b ρ O=.ok (.int j) O)(hj:0<j):aj bw a b ρ O=.ok (.int (i % j)) O:=aU ha hb (by rw[mK,mK,Wq,if_pos hj])
theorem dj{a b:L2.M D}{ρ:az}{O:ao}{i j:Int}(ha:a ρ O=.ok (.int i) O)(hb:b ρ O=.ok (.int j) O):aj aN a b ρ O=.ok (.int (i+j)) O:=aU ha hb rfl
theorem m8{a b:L2.M D}{ρ:az}{O:ao}{i j:Int}(ha:a ρ O=.ok (.int i) O)(hb:b ρ O=.ok (.int j) O):aj dO a b ρ O=.ok (.int (i - j)) O:=aU ha hb rfl
theorem Yk{a b:L2.M D}{ρ:az}{O:ao}{i j:Int}(ha:a ρ O=.ok (.int i) O)(hb:b ρ O=.ok (.int j) O):aQ (aj gLt a b) ρ O=.ok (decide (i<j)) O:=fX (aU ha hb rfl)
theorem CQ{a b:L2.M D}{ρ:az}{O:ao}{i j:Int}(ha:a ρ O=.ok (.int i) O)(hb:b ρ O=.ok (.int j) O):aQ (aj gEq a b) ρ O=.ok (decide (i=j)) O:=fX (aU ha hb rfl)
theorem lO{a b:L2.M D}{ρ:az}{O:ao}{c k:Int}(ha:a ρ O=.ok (.int c) O)(hb:b ρ O=.ok (.int k) O)(h0:0<=k)(h1:k<=1000000):aJ dW (ak a (ak b au)) ρ O=.ok (.int (mix c k)) O:=by
 rw[cL (maS ha (ma1 hb))];exact WQ c k h0 h1 O
theorem JZ{a b:L2.M D}{ρ:az}{O:ao}{i j:Int}(ha:a ρ O=.ok (.int i) O)(hb:b ρ O=.ok (.int j) O):aQ (aj gLe a b) ρ O=.ok (decide (i<=j)) O:=fX (aU ha hb rfl)
theorem J0{i:Nat}{m:L2.M D}{ρ:az}{O O1:ao}{d:D}(h:m ρ O=.ok d O1):aC i m ρ O=.nx (ρ.set i (some d)) O1:=by
 rw[yF,h,yG]
theorem not_no{m:L2.M D}{s:MS}{ρ:az}{O:ao}(h:m ρ O=.ok (.bl true) O):bz (fM (bZ m)) s bI ρ O=.nx ρ O:=by
 rw[uE,uA,qM,h,aO,jJ,qN,qL,aO,uF,if_neg (by decide)];rfl
theorem or_f{t1 t2:L2.M Bool}{ρ:az}{O:ao}(h1:t1 ρ O=.ok false O)(h2:t2 ρ O=.ok false O):fL t1 t2 ρ O=.ok false O:=by
 rw[uz,h1,aO,if_neg zk,h2]
theorem iB{m:L2.M D}{ρ:az}{O:ao}{l:List D}(h:m ρ O=.ok (.lst l) O):cB m ρ O=.ok l O:=by
 rw[Wm,h,aO,Wn,Wl]
theorem jq{m:L2.M (List D)}{own:Nat}{cap:List Nat}{g:MG}{t:L2.M Bool}{e:L2.M D}{ρ ρ0:az}{O O1:ao}{ds ys:List D}(h:m ρ O=.ok ds O)(hl:ds.length<=1000000)(h0:iK own cap ρ=ρ0)(hc:cz g t e ds ρ0 O []=.ok ys O1):cI m own cap g t e ρ O=.ok (.lst ys) O1:=by
 rw[Wo,h,aO,if_pos hl,h0,hc,aO]
theorem Yl{m:L2.M D}{ρ:az}{O:ao}{d:D}{l:List D}(h:m ρ O=.ok d O)(hd:aZ O d=.lst l):aX jE (ak m au) ρ O=.ok (.lst l) O:=by
 rw[HS,ma1 h,aO,zj,zN,hd,W9,mJ]
theorem CT(n:Nat):cZ 0 n=(List.range n).map λi:Nat=>D.int ((i:Nat):Int):=by
 unfold cZ;simp
theorem o9{n i:Nat}{d:D}(h:(cZ 0 n)[i]?=some d):i<n/\d=.int (i:Int):=by
 have hi:i<n:=by
  have:=(zh.mp h).1
  rwa [lH] at this
 rw[CT,zl,List.getElem?_range hi] at h;cases h;exact⟨hi,rfl⟩
theorem jr{l:List D}{i:Nat}{d:D}(h:l[i]?=some d):gIx (.lst l) (.int (i:Int))=some d:=by
 rw[mR,mU,h]
abbrev C:=List Nat×List Nat×List Nat
def dC(c:C):D:=.tup [.str c.1,.str c.2.1,.str c.2.2]
def bl:C:=([32],[46],[46])
def mk:C:=([33],[97],[97])
abbrev Row:=List C
def bu(r:Row):Ob:=.ml (r.map dC)
def ids(b n:Nat):List Nat:=(List.range n).map (b + ·)
theorem J1(b n:Nat):(ids b n).length=n:=by unfold ids;rw[zd,List.length_range]
structure Pc(O:ao)(is:List Nat)(P:List Row)(lo hi:Nat):Prop where
 eq:is.map (λi=>O[i]?)=P.map λr=>some (bu r)
 lo:∀i∈is,lo<=i/\i<hi
 hi:hi<=O.length
def pD(is:List Nat):D:=.lst (is.map D.ob)
theorem Pc.len{O:ao}{is:List Nat}{P:List Row}{lo hi:Nat}(h:Pc O is P lo hi):is.length=P.length:=by
 have:=congrArg List.length h.eq
 simpa using this
theorem Pc.at{O:ao}{is:List Nat}{P:List Row}{lo hi k i:Nat}(h:Pc O is P lo hi)(e:is[k]?=some i):∃r,P[k]?=some r/\O[i]?=some (bu r):=by
 have q:=congrArg (λl=>l[k]?) h.eq;simp only[zl,e,Option.map_some] at q
 cases hp:P[k]? with
 |none=>rw[hp] at q;cases q
 |some r=>rw[hp] at q;exact⟨r,rfl,zx q⟩
theorem Pc.frame{O O':ao}{is:List Nat}{P:List Row}{lo hi:Nat}(h:Pc O is P lo hi)(hl:O.length<=O'.length)(hf:∀i,lo<=i->i<hi->O'[i]?=O[i]?):Pc O' is P lo hi:=by
 refine⟨?_,h.lo,zG h.hi hl⟩;rw[<-h.eq]
 refine jo λi hi'=>?_
 exact hf i (h.lo i hi').1 (h.lo i hi').2
theorem Pc.app{O:ao}{is:List Nat}{P:List Row}{lo hi:Nat}(h:Pc O is P lo hi)(E:ao):Pc (O++E) is P lo hi :=
 h.frame (by rw[ze];omega) λi _ hi'=>zv (zA hi' h.hi)
theorem ph(O:ao)(P:List Row):Pc (O++P.map bu) (ids O.length P.length) P O.length (O.length+P.length):=by
 refine⟨?_,λi hi=>?_,by rw[ze,zd];exact zb _⟩
 ·refine List.ext_getElem (by rw[zd,J1,zd]) λk h1 h2=>?_
  rw[zd,J1] at h1;rw[List.getElem_map,List.getElem_map];unfold ids;rw[List.getElem_map,List.getElem_range,zI (by omega),Nat.add_sub_cancel_left,zl,zg h1];rfl
 ·obtain⟨k,hk,rfl⟩:=zP.mp hi
  have:=List.mem_range.mp hk
  omega
theorem jt{O:ao}{i:Nat}{l:List D}(h:O[i]?=some (.ml l)):aZ O (.ob i)=.lst l:=by
 unfold aZ;dsimp only;rw[h]
theorem CV{α:Type}{g:MG}{t:L2.M Bool}{m:L2.M D}(Pv:az->Prop)(f:α->D)(h:α->List D)(O:ao):∀(xs:List α) (ρ:az) (E:ao) (acc:List D),Pv ρ ->
  (∀x∈xs,∀ρ,Pv ρ->∀E,∃ρ1,g (f x) ρ=some ρ1/\Pv ρ1/\t ρ1 (O++E)=.ok true (O++E)/\m ρ1 (O++E)=.ok (.lst (h x)) (O++E)) ->
  cz g t (mMl m) (xs.map f) ρ (O++E) acc=.ok (acc++(ids (O.length+E.length) xs.length).map D.ob) (O++(E++xs.map λx=>Ob.ml (h x)))
 | [],ρ,E,acc,_,_=>by
  unfold ids;simp[cz]
 |x::xs,ρ,E,acc,hp,hs=>by
  obtain⟨ρ1,e1,h1,e2,e3⟩:=hs x zr ρ hp E
  have e4:mMl m ρ1 (O++E)=.ok (.ob (O.length+E.length)) (O++(E++[Ob.ml (h x)])):=by
   unfold mMl;rw[e3,aO,ze];dsimp only;rw[zJ]
  rw[zj];unfold cz;rw[e1];dsimp only;rw[e2];dsimp only;rw[e4];dsimp only;rw[CV Pv f h O xs ρ1 (E++[Ob.ml (h x)]) _ h1 λd' hd'=>hs d' (zw _ hd')]
  have hid:ids (O.length+E.length) (xs.length+1)=(O.length+E.length)::ids (O.length+E.length+1) xs.length:=by
   unfold ids;rw[List.range_succ_eq_map,zj,jb];congr 1
   refine jo λk _=>?_
   show O.length+E.length+(k+1)=O.length+E.length+1+k;omega
  rw[zE,hid,ze,zY,<-Nat.add_assoc];simp
theorem J2(d:D)(w:Nat)(hw:w<=1000):cF (.lst [d]) (.int (w:Int))=some (.lst (List.replicate w d)):=by
 show(if -1000000<(w:Int)/\(w:Int)<1000000/\[d].length * (w:Int).toNat<=1000000 then some (D.lst (List.replicate (w:Int).toNat [d]).flatten) else none)=_;rw[if_pos ⟨by omega,by omega,by simp;omega⟩];simp
def vP(O:ao)(i:Nat):List D:=match O[i]? with
 |some (.ml l)=>l
 | _=>[]
theorem Pc.rows{O:ao}{is:List Nat}{P:List Row}{lo hi:Nat}(h:Pc O is P lo hi):(is.map λi=>Ob.ml (vP O i))=P.map bu:=by
 refine List.ext_getElem (by rw[zd,zd,h.len]) λk h1 h2=>?_
 rw[zd] at h1;obtain⟨r,e1,e2⟩:=h.at (zg h1);rw[List.getElem_map,List.getElem_map]
 have hk:k<P.length:=by rw[<-h.len];exact h1
 rw[zg hk] at e1;cases e1;unfold vP;rw[e2];rfl
theorem CW{O:ao}{is:List Nat}{P:List Row}{lo hi:Nat}(h:Pc O is P lo hi)(hl:is.length<=1000){m:L2.M D}{ρ:az}(hm:m ρ O=.ok (pD is) O):cI (cB m) 1 [] (mgN 0) cT (mMl (aX jE (ak (aa 0) au))) ρ O=.ok (pD (ids O.length P.length)) (O++P.map bu):=by
 have ec:=CV (g:=mgN 0) (t:=cT) (m:=aX jE (ak (aa 0) au)) (λρ=>∃a,ρ=[a]) D.ob (λi=>vP O i) O is [none] [] [] ⟨_,rfl⟩ (by
  rintro i hi ρ ⟨a,rfl⟩ E;refine⟨_,rfl,⟨_,rfl⟩,rfl,Yl (d:=.ob i) rfl ?_⟩;obtain⟨k,hk⟩:=List.mem_iff_getElem?.mp hi;obtain⟨r,e1,e2⟩:=h.at hk
  have e3:(O++E)[i]?=some (bu r):=by
   rw[zv (zh.mp e2).1];exact e2
  rw[jt (l:=r.map dC) e3];unfold vP;rw[e2]
  rfl)
 rw[zS,zK,zK,h.rows,h.len,jh,Nat.add_zero] at ec;exact jq (own:=1) (cap:=[]) (iB hm) (by rw[zd];omega) rfl ec
theorem J3{O:ao}{is:List Nat}{P:List Row}{lo hi:Nat}(h:Pc O is P lo hi)(hl:is.length<=1000):lL [pD is] O=.ok (pD (ids O.length P.length)) (O++P.map bu):=by
 show bx (aW _ [some (pD is)] O)=_;rw[gR];exact(congrArg (λr=>bx (iZ r)) (CW h hl (m:=aa 0) (ρ:=[some (pD is)]) rfl)).trans rfl
def ck(left:Nat)(cs:List C):Nat->Row->Row
 | 0,row=>row
 |j+1,row=>(ck left cs j row).set (left+j) ((cs[j]?).getD bl)
theorem vQ(left:Nat)(cs:List C):∀(j:Nat) (row:Row),(ck left cs j row).length=row.length
 | 0,row=>rfl
 |j+1,row=>by show(List.set _ _ _).length=_;rw[zU,vQ left cs j row]
theorem J4(left i:Nat)(cs:List C):∀(j:Nat) (row:Row),i<row.length->(ck left cs j row)[i]?=if left<=i/\i<left+j then some ((cs[i - left]?).getD bl) else row[i]?
 | 0,row,hi=>by rw[if_neg (by omega)];rfl
 |j+1,row,hi=>by
  show((ck left cs j row).set (left+j) ((cs[j]?).getD bl))[i]?=_;rw[List.getElem?_set,J4 left i cs j row hi]
  by_cases h:left+j=i
  ·rw[if_pos h,if_pos (by rw[vQ];omega),if_pos (by omega),show i - left=j by omega]
  ·rw[if_neg h]
   by_cases h2:left<=i/\i<left+j
   ·rw[if_pos h2,if_pos (by omega)]
   ·rw[if_neg h2,if_neg (by omega)]
theorem Ym{O R:ao}(i:Nat):(O++R)[O.length+i]?=R[i]?:=by
 rw[zI (by omega),Nat.add_sub_cancel_left]
theorem Yn{O R:ao}(i:Nat)(o:Ob):(O++R).set (O.length+i) o=O++R.set i o:=by
 rw[List.set_append_right _ _ (by omega),Nat.add_sub_cancel_left]
theorem Yo{mo mi m:L2.M D}{ρ:az}{O:ao}{d:D}{n j:Nat}{ds:List D}(h:m ρ O=.ok d O)(ho:mo ρ O=.ok (.ob n) O)(hi:mi ρ O=.ok (.int (j:Int)) O)(hO:O[n]?=some (.ml ds))(hj:j<ds.length):lE mo mi m ρ O=.nx ρ (O.set n (.ml (ds.set j d))):=by
 have q:ixN ds.length (j:Int)=some j:=by
  unfold ixN;rw[if_pos (by omega),if_pos (by omega),Int.toNat_natCast]
 unfold lE;rw[h];dsimp only;rw[ho];dsimp only;rw[hi];dsimp only;rw[hO];dsimp only;rw[q]
theorem setC{mo mi m:L2.M D}{ρ:az}{O:ao}{Q:List Row}{t j:Nat}{row:Row}{c:C}(ht:Q[t]?=some row)(h:m ρ (O++Q.map bu)=.ok (dC c) (O++Q.map bu))(ho:mo ρ (O++Q.map bu)=.ok (.ob (O.length+t)) (O++Q.map bu))(hi:mi ρ (O++Q.map bu)=.ok (.int (j:Int)) (O++Q.map bu))(hj:j<row.length):
  lE mo mi m ρ (O++Q.map bu)=.nx ρ (O++(Q.set t (row.set j c)).map bu):=by
 rw[Yo (ds:=row.map dC) h ho hi (by rw[Ym,zl,ht];rfl) (by rw[zd];exact hj),Yn,List.map_set,<-List.map_set];rfl
theorem Yp{α:Type}{l:List α}{t:Nat}{x:α}(h:l[t]?=some x):l.set t x=l:=by
 refine jk λi=>?_
 rw[List.getElem?_set]
 by_cases e:t=i
 ·subst e;rw[if_pos rfl,if_pos (zh.mp h).1,h]
 ·rw[if_neg e]
theorem Yq(b n k:Nat)(h:k<n):(ids b n)[k]?=some (b+k):=by
 unfold ids;rw[zl,List.getElem?_range h];rfl
theorem Yr{α:Type}(l:List α)(a b:Nat):dX l (some (a:Int)) (some (b:Int))=(l.drop a).take (b - a):=by
 unfold dX;rw[HT.sIx_nat,HT.sIx_nat]
 by_cases h:a<=l.length
 ·rw[Nat.min_eq_left h]
  by_cases hb:b<=l.length
  ·rw[Nat.min_eq_left hb]
  ·rw[Nat.min_eq_right (by omega),List.take_of_length_le (by rw[List.length_drop];omega),List.take_of_length_le (by rw[List.length_drop];omega)]
 ·rw[Nat.min_eq_right (show l.length<=a by omega),List.drop_eq_nil_of_le (show l.length<=l.length by omega),List.drop_eq_nil_of_le (show l.length<=a by omega)];simp
theorem Ys{α:Type}(l:List α)(b:Nat):dX l none (some (b:Int))=l.take b:=by
 unfold dX;rw[HT.sIx_nat,HT.sIx_none,List.drop_zero,Nat.sub_zero]
 by_cases hb:b<=l.length
 ·rw[Nat.min_eq_left hb]
 ·rw[Nat.min_eq_right (by omega),List.take_of_length_le (by omega),List.take_of_length_le (by omega)]
theorem J5{α:Type}(l:List α)(a:Nat):dX l (some (a:Int)) none=l.drop a:=by
 unfold dX;rw[HT.sIx_nat,HT.sIx_none]
 by_cases h:a<=l.length
 ·rw[Nat.min_eq_left h,List.take_of_length_le (by rw[List.length_drop];omega)]
 ·rw[Nat.min_eq_right (by omega),List.drop_eq_nil_of_le (by omega),List.drop_eq_nil_of_le (by omega)];simp
theorem vR{m:L2.M D}{ρ:az}{O:ao}{d:D}{n t:String}(h:m ρ O=.ok d O)(ht:tyD (aZ O d)=some t):eY n m ρ O=.ok (.bl (cN t n)) O:=by
 rw[Wg,h,aO,ht,We]
theorem sr{m:L2.M D}{ρ:az}{O:ao}{b:Bool}(h:m ρ O=.ok (.bl b) O):bZ m ρ O=.ok b O:=by
 rw[qM,h,aO,jJ,qN,qL]
theorem y1:cN "str" "bool" = false:=by decide
theorem y2:cN "str" "int" = false:=by decide
theorem y3:cN "list" "bool" = false:=by decide
theorem y4:cN "list" "int" = false:=by decide
theorem y5:cN "list" "str" = false:=by decide
theorem y6:cN "tuple" "bool" = false:=by decide
theorem y7:cN "tuple" "int" = false:=by decide
theorem y8:cN "tuple" "str" = false:=by decide
theorem y9:cN "list" "tuple" = false:=by decide
theorem Yt(n:Nat)(a:List Nat)(O:ao):gU (n+1) [.str a,.str a] O=.ok (.bl true) O:=by
 have v1:∀q,bZ (eY q (aa 1)) [some (.str a),some (.str a),none] O=.ok (cN "str" q) O:=λq=>sr (vR (d:=.str a) rfl rfl)
 have w1:ik (eY "str" (aa 0)) (aj gEq (aa 0) (aa 1)) [some (.str a),some (.str a),none] O=.ok (.bl true) O:=by
  rw[yC,vR (d:=.str a) (t:="str") rfl rfl,aO,Ih,yz,if_pos rfl,aU (x:=.str a) (y:=.str a) (z:=.bl true) rfl rfl (by rw[HN,uG,zz rfl])]
 show bx (mZ (gU n) [some (.str a),some (.str a),none] O)=_;unfold mZ;rw[bD,dD (by rw[v1,y1]),iY,bB,bD,dD (by rw[v1,y2]),iY,bB,bD,gn (by rw[v1,Ih]),gR,w1];rfl
def J6(self:List D->ao->Res D):MS:=bz (fM (bZ (aJ self (ak (aj gIx (aa 0) (aa 2)) (ak (aj gIx (aa 1) (aa 2)) au))))) (aW (mC (.bl false))) bI
theorem CZ(self:List D->ao->Res D)(d e:D)(l m:List D)(O:ao)(hd:aZ O d=.lst l/\aZ O e=.lst m\/aZ O d=.tup l/\aZ O e=.tup m)(hl:l.length=m.length)(hm:m.length<=1000)
  (hs:∀(i:Nat) (x y:D),l[i]?=some x->m[i]?=some y->self [x,y] O=.ok (.bl true) O):bx (mZ self [some d,some e,none] O)=.ok (.bl true) O:=by
 have li:∀(i:Nat) (x:D),l[i]?=some x->gIx (aZ O d) (.int (i:Int))=some x:=λi x h=>by
  rcases hd with⟨a,_⟩ | ⟨a,_⟩
  ·rw[a,mR,mU,h]
  ·rw[a,Ig,mU,h]
 have mi:∀(i:Nat) (x:D),m[i]?=some x->gIx (aZ O e) (.int (i:Int))=some x:=λi x h=>by
  rcases hd with⟨_,a⟩ | ⟨_,a⟩
  ·rw[a,mR,mU,h]
  ·rw[a,Ig,mU,h]
 have ln:aX bF (ak (aa 0) au) [some d,some e,none] O=.ok (.int (m.length:Int)) O:=gk (xs:=[d]) rfl (by
  rw[zj,zN,<-hl]
  rcases hd with⟨a,_⟩ | ⟨a,_⟩<;>rw[a]<;>rfl)
 have le:aX bF (ak (aa 1) au) [some d,some e,none] O=.ok (.int (m.length:Int)) O:=gk (xs:=[e]) rfl (by
  rw[zj,zN]
  rcases hd with⟨_,a⟩ | ⟨_,a⟩<;>rw[a]<;>rfl)
 obtain⟨ρ1,O1,e1,hO1,p2,rfl⟩:=gj (g:=mgN 2) (b:=J6 self)
  (λ_ ρ O'=>O'=O/\∃p2,ρ=[some d,some e,p2]) (cZ 0 m.length) 0 [some d,some e,none] O ⟨rfl,none,rfl⟩ (by
   rintro i x ρ O' hi ⟨hO',p2,rfl⟩;obtain⟨hi5,rfl⟩:=o9 hi;rw[hO'];have hx:l[i]?=some l[i]:=zg (by omega);have hy:m[i]?=some m[i]:=zg hi5
   have c:aJ self (ak (aj gIx (aa 0) (aa 2)) (ak (aj gIx (aa 1) (aa 2)) au)) [some d,some e,some (.int (i:Int))] O=.ok (.bl true) O:=by
    rw[cL (maS (aU (x:=d) (y:=.int (i:Int)) rfl rfl (li i _ hx)) (ma1 (aU (x:=e) (y:=.int (i:Int)) rfl rfl (mi i _ hy)))),hs i _ _ hx hy]
   exact⟨_,rfl,_,_,.inl (not_no (s:=aW (mC (.bl false))) c),rfl,some (.int (i:Int)),rfl⟩)
 rw[hO1] at e1;have ne:aQ (aj gNe (aX bF (ak (aa 0) au)) (aX bF (ak (aa 1) au))) [some d,some e,none] O=.ok false O:=fX (aU ln le (by rw[mK,Wv,zz rfl];rfl))
 have pre:∃t:String,(t = "list"\/t = "tuple")/\tyD (aZ O d)=some t/\tyD (aZ O e)=some t:=by
  rcases hd with⟨a,b⟩ | ⟨a,b⟩
  ·exact⟨"list",.inl rfl,by rw[a];rfl,by rw[b];rfl⟩
  ·exact⟨"tuple",.inr rfl,by rw[a];rfl,by rw[b];rfl⟩
 obtain⟨t,ht,td,te⟩:=pre
 have v0:∀q,bZ (eY q (aa 0)) [some d,some e,none] O=.ok (cN t q) O:=λq=>sr (vR (d:=d) rfl td)
 have v1:∀q,bZ (eY q (aa 1)) [some d,some e,none] O=.ok (cN t q) O:=λq=>sr (vR (d:=e) rfl te)
 have fin:bx (aB (bz (aQ (aj gNe (aX bF (ak (aa 0) au)) (aX bF (ak (aa 1) au)))) (aW (mC (.bl false))) bI) (aB (bY (dB (ak (aX bF (ak (aa 1) au)) au)) (mgN 2) (J6 self)) (aW (mC (.bl true)))) [some d,some e,none] O)=.ok (.bl true) O:=by
  rw[bD,dD ne,iY,bB,bD,gf,lN le (by omega),gh,e1,bB];rfl
 have nn:∀q,cN t q=true->bz (fM (bZ (eY q (aa 0)))) (aW (mC (.bl false))) bI [some d,some e,none] O=.nx [some d,some e,none] O:=λq h=>by
  rw[dD (by rw[uA,v0,h,aO];rfl)];rfl
 unfold mZ
 rcases ht with rfl | rfl
 ·rw[bD,dD (by rw[v1,y3]),iY,bB,bD,dD (by rw[v1,y4]),iY,bB,bD,dD (by rw[v1,y5]),iY,bB,bD,dD (by rw[v1,y9]),nn "list" WN,bB];exact fin
 ·rw[bD,dD (by rw[v1,y6]),iY,bB,bD,dD (by rw[v1,y7]),iY,bB,bD,dD (by rw[v1,y8]),iY,bB,bD,gn (by rw[v1,Ii]),nn "tuple" Ii,bB];exact fin
theorem Dc(n:Nat)(d e:D)(O:ao):gU (n+1) [d,e] O=bx (mZ (gU n) [some d,some e,none] O):=rfl
theorem Yu(n:Nat)(c:C)(O:ao):gU (n+2) [dC c,dC c] O=.ok (.bl true) O:=by
 refine(Dc (n+1) (dC c) (dC c) O).trans (CZ (gU (n+1)) (dC c) (dC c) [.str c.1,.str c.2.1,.str c.2.2] [.str c.1,.str c.2.1,.str c.2.2] O (.inr ⟨rfl,rfl⟩) rfl (show(3:Nat)<=1000 by decide) λi x y hx hy=>?_);rw[hx] at hy;cases hy;have hm:=zy hx;simp only[zm,List.not_mem_nil,or_false] at hm
 rcases hm with rfl | rfl | rfl<;>exact Yt _ _ _
theorem Yv(n:Nat)(d e:D)(r:Row)(hr:r.length<=1000)(O:ao)(hd:aZ O d=.lst (r.map dC))(he:aZ O e=.lst (r.map dC)):gU (n+3) [d,e] O=.ok (.bl true) O:=by
 refine(Dc (n+2) d e O).trans (CZ (gU (n+2)) d e (r.map dC) (r.map dC) O (.inl ⟨hd,he⟩) rfl (by rw[zd];exact hr) λi x y hx hy=>?_);rw[hx] at hy;cases hy;obtain⟨c,_,rfl⟩:=zP.mp (zy hx);exact Yu _ _ _
def Rows(O:ao)(ds:List D)(P:List Row):Prop:=ds.map (aZ O)=P.map λr=>D.lst (r.map dC)
theorem Pc.rws{O:ao}{is:List Nat}{P:List Row}{lo hi:Nat}(h:Pc O is P lo hi):Rows O (is.map D.ob) P:=by
 unfold Rows;rw[jb]
 refine List.ext_getElem (by rw[zd,zd,h.len]) λk h1 h2=>?_
 rw[zd] at h1;obtain⟨r,e1,e2⟩:=h.at (zg h1)
 have hk:k<P.length:=by rw[<-h.len];exact h1
 rw[zg hk] at e1;cases e1;rw[List.getElem_map,List.getElem_map];exact jt e2
theorem Rows.at{O:ao}{ds:List D}{P:List Row}(h:Rows O ds P){i:Nat}{x:D}(hx:ds[i]?=some x):∃r,P[i]?=some r/\aZ O x=.lst (r.map dC):=by
 have q:=congrArg (λl=>l[i]?) h;simp only[zl,hx,Option.map_some] at q
 cases hp:P[i]? with
 |none=>rw[hp] at q;cases q
 |some r=>rw[hp] at q;exact⟨r,rfl,zx q⟩
theorem Rows.len{O:ao}{ds:List D}{P:List Row}(h:Rows O ds P):ds.length=P.length:=by
 have:=congrArg List.length h
 simpa using this
theorem Yw{O:ao}{ds es:List D}{P:List Row}(h1:Rows O ds P)(h2:Rows O es P)(hl:P.length<=1000)(hw:∀r∈P,r.length<=1000):o8 [.lst ds,.lst es] O=.ok (.bl true) O:=by
 refine(Dc 5 (.lst ds) (.lst es) O).trans (CZ (gU 5) (.lst ds) (.lst es) ds es O (.inl ⟨rfl,rfl⟩) (by rw[h1.len,h2.len]) (by rw[h2.len];exact hl) λi x y hx hy=>?_);obtain⟨r,e1,e2⟩:=h1.at hx;obtain⟨r',e3,e4⟩:=h2.at hy;rw[e1] at e3;cases e3;exact Yv 2 x y r (hw r (zy e1)) O e2 e4
theorem m9(n k j:Int)(h:0<j):0<=mix n k % j/\mix n k % j<j:=⟨ja _ (by omega),jd _ h⟩
@[simp] theorem J7{i:Int}:cF (.int i) (.int 48271)=some (.int (i * 48271)):=lG (.inr ⟨by decide,by decide⟩)
@[simp] theorem QyC{i:Int}:cF (.int i) (.int 7919)=some (.int (i * 7919)):=lG (.inr ⟨by decide,by decide⟩)
@[simp] theorem QyJ{i:Int}:cF (.int 7) (.int i)=some (.int (7 * i)):=lG (.inl ⟨by decide,by decide⟩)
theorem Yx(ns:List Int)(k:Int)(h0:0<=k)(h1:k<=1000)(O:ao):∃v,d9 [.lst (ns.map D.int),.int k] O=.ok (.int v) O:=by
 by_cases hk:k<ns.length
 ·obtain⟨x,hx,ex⟩:=uH (xs:=ns.map D.int) h0 (by simpa using hk);obtain⟨n,_,rfl⟩:=zP.mp ex;exact⟨n,by simp[d9,rM,hk,mR,hx]⟩
 ·have hkk:=lG (i:=k) (j:=k) (.inl ⟨by omega,by omega⟩)
  by_cases hn:0<ns.length
  ·have hn':(0:Int)<ns.length:=by omega
   obtain⟨x,hx,ex⟩:=uH (xs:=ns.map D.int) (i:=k % (ns.length:Int)) (ja _ (by omega)) (by simpa using jd k hn');obtain⟨n,_,rfl⟩:=zP.mp ex;exact⟨(k * k * 7919+104729+n % 1000003 * 48271) * 48271 % 2147483647,by simp[d9,rM,hk,hkk,mR,hx,hn]⟩
  ·have:ns=[]:=List.eq_nil_of_length_eq_zero (by omega)
   subst this;exact⟨(k * k * 7919+104729) * 48271 % 2147483647,by simp[d9,rM,hkk];omega⟩
theorem Yy{m:Int}(h0:0<=m)(h1:m<2147483629):cF (.int m) (.int m)=some (.int (m * m)):=lG (.inl ⟨by omega,by omega⟩)
theorem ixS{l:List Nat}{v n:Int}(hl:l.length<=1000000)(h:(l.length:Int)=n)(hn:0<n):∃c,c∈l/\gIx (.str l) (.int (v % n))=some (.str [c]):=by
 obtain⟨c,h1,h2⟩:=uH (xs:=l) (i:=v % n) (ja _ (by omega)) (by rw[h];exact jd _ hn);exact⟨c,h2,by rw[WD,if_pos hl,h1];rfl⟩
theorem ixL{l:List D}{v n:Int}(h:(l.length:Int)=n)(hn:0<n):∃c,c∈l/\gIx (.lst l) (.int (v % n))=some c:=by
 obtain⟨c,h1,h2⟩:=uH (xs:=l) (i:=v % n) (ja _ (by omega)) (by rw[h];exact jd _ hn);exact⟨c,h2,h1⟩
theorem vU(xs:List Int){a b:L2.M D}{ρ:az}{O:ao}{k:Int}(ha:a ρ O=.ok (.lst (xs.map D.int)) O)(hb:b ρ O=.ok (.int k) O)(h0:0<=k)(h1:k<=1000):∃v,aJ d9 (ak a (ak b au)) ρ O=.ok (.int v) O:=by
 obtain⟨v,e⟩:=Yx xs k h0 h1 O;exact⟨v,by rw[cL (maS ha (ma1 hb)),e]⟩
def pA:MS:=bz (aQ (aj gGt (aa 0) (aj d7 (mC (.int 10)) (mC (.int 18))))) (aB (cQ 4 (aj bw (aa 3) (aj d7 (mC (.int 10)) (mC (.int 9)))))
  (aC 3 (aj du (aa 3) (aj d7 (mC (.int 10)) (mC (.int 9)))))) (aB (aC 2 (aj bw (aj aN (aj cF (aa 2) (mC (.int 48271))) (mC (.int 104729))) (mC (.int 2147483629))))
  (cQ 4 (aj du (aj bw (aj cF (aa 2) (aa 2)) (mC (.int 998244353))) (mC (.int 11)))))
theorem Dd{a b:L2.M D}{ρ:az}{O:ao}{i j:Int}(ha:a ρ O=.ok (.int i) O)(hb:b ρ O=.ok (.int j) O)(hj:0<j/\j<1073741824):aj du a b ρ O=.ok (.int (i / j)) O:=aU ha hb (by rw[mK,mK,Ws,if_pos hj])
theorem p9{ρ:az}{O:ao}:aj d7 (mC (.int 10)) (mC (.int 9)) ρ O=.ok (.int 1000000000) O:=aU rfl rfl WM
theorem Yz(c:Int)(n:Nat)(hn:n<=1000)(O:ao):∃xs:List Int,xs.length=n/\vK [.int c,.int (n:Int)] O=.ok (.lst (xs.map D.int)) O:=by
 obtain⟨ρ1,O1,e1,hO1,m,r,ys,o5,rfl,hl⟩:=gj (g:=mgN 5) (b:=pA)
  (λi ρ O'=>O'=O/\∃m r ys o5,ρ=[some (.int c),some (.int (n:Int)),some (.int m),some (.int r),some (.lst (ys.map D.int)),o5]/\ys.length=i) (cZ 0 n) 0
  [some (.int c),some (.int (n:Int)),some (.int ((c % 2147483647+7919) * 48271+104729)),some (.int c),some (.lst []),none] O ⟨rfl,_,_,[],_,rfl,rfl⟩ (by
   rintro i d ρ O' hi ⟨hO',m,r,ys,o5,rfl,hl⟩;obtain⟨hi5,rfl⟩:=o9 hi;have t:aQ (aj gGt (aa 0) (aj d7 (mC (.int 10)) (mC (.int 18)))) [some (.int c),some (.int (n:Int)),some (.int m),some (.int r),some (.lst (ys.map D.int)),some (.int (i:Int))] O'=.ok (decide (1000000000000000000<c)) O':=fX (aU (x:=.int c) (y:=.int 1000000000000000000) rfl (aU rfl rfl WL) rfl)
   by_cases hc:1000000000000000000<c
   ·have a4:=kh (i:=4) (m:=aj bw (aa 3) (aj d7 (mC (.int 10)) (mC (.int 9)))) (ρ:=[some (.int c),some (.int (n:Int)),some (.int m),some (.int r),some (.lst (ys.map D.int)),some (.int (i:Int))]) (O:=O') (ds:=ys.map D.int) (fH (i:=r) rfl p9 (by decide)) rfl (by rw[zd];omega);have s3:=bQ (i:=3) (m:=aj du (aa 3) (aj d7 (mC (.int 10)) (mC (.int 9)))) (ρ:=[some (.int c),some (.int (n:Int)),some (.int m),some (.int r),some (.lst ((ys++[r % 1000000000]).map D.int)),some (.int (i:Int))]) (O:=O') (Dd (i:=r) rfl p9 (by decide));refine⟨_,rfl,_,_,.inl ?_,hO',m,r / 1000000000,ys++[r % 1000000000],some (.int (i:Int)),rfl,by rw[ze,hl];rfl⟩
    show pA [some (.int c),some (.int (n:Int)),some (.int m),some (.int r),some (.lst (ys.map D.int)),some (.int (i:Int))] O'=_;unfold pA;rw[gn (by rw[t,zz hc]),bD,a4,bB];rw[zD] at s3 ⊢;exact s3
   ·have h0:0<=(m * 48271+104729) % 2147483629:=ja _ (by decide);have h1:=jd (m * 48271+104729) (show(0:Int)<2147483629 by decide);have s2:=bQ (i:=2) (m:=aj bw (aj aN (aj cF (aa 2) (mC (.int 48271))) (mC (.int 104729))) (mC (.int 2147483629))) (ρ:=[some (.int c),some (.int (n:Int)),some (.int m),some (.int r),some (.lst (ys.map D.int)),some (.int (i:Int))]) (O:=O') (fH (j:=2147483629) (dj (i:=m * 48271) (j:=104729) (aU (x:=.int m) (y:=.int 48271) rfl rfl J7) rfl) rfl (by decide))
    generalize (m * 48271+104729) % 2147483629=m2 at s2 h0 h1
    have a4:=kh (i:=4) (m:=aj du (aj bw (aj cF (aa 2) (aa 2)) (mC (.int 998244353))) (mC (.int 11))) (ρ:=[some (.int c),some (.int (n:Int)),some (.int m2),some (.int r),some (.lst (ys.map D.int)),some (.int (i:Int))]) (O:=O') (ds:=ys.map D.int) (Dd (j:=11) (fH (i:=m2 * m2) (j:=998244353) (aU (x:=.int m2) (y:=.int m2) rfl rfl (Yy h0 h1)) rfl (by decide)) rfl (by decide)) rfl (by rw[zd];omega);refine⟨_,rfl,_,_,.inl ?_,hO',m2,r,ys++[m2 * m2 % 998244353 / 11],some (.int (i:Int)),rfl,by rw[ze,hl];rfl⟩;show pA [some (.int c),some (.int (n:Int)),some (.int m),some (.int r),some (.lst (ys.map D.int)),some (.int (i:Int))] O'=_
    unfold pA;rw[dD (by rw[t,zo hc]),bD,s2,bB];rw[zD]
    exact a4)
 rw[hO1] at e1;rw[lH,zC] at hl;refine⟨ys,hl,?_⟩;have s2:=bQ (i:=2) (m:=aj aN (aj cF (aj aN (aj bw (aa 0) (mC (.int 2147483647))) (mC (.int 7919))) (mC (.int 48271))) (mC (.int 104729))) (ρ:=[some (.int c),some (.int (n:Int)),none,none,none,none]) (O:=O) (dj (i:=(c % 2147483647+7919) * 48271) (j:=104729) (aU (x:=.int (c % 2147483647+7919)) (y:=.int 48271) (dj (fH (i:=c) (j:=2147483647) rfl rfl (by decide)) rfl) rfl J7) rfl);show bx (aB _ (aB (aC 3 (mG (aa 0))) (aB (aC 4 (bK au)) (aB (bY (dB (ak (aa 1) au)) (mgN 5) pA) (aW (aa 4))))) [some (.int c),some (.int (n:Int)),none,none,none,none] O)=_
 rw[bD,s2,bB,bD,show aC 3 (mG (aa 0)) ([some (.int c),some (.int (n:Int)),none,none,none,none].set 2 (some (.int ((c % 2147483647+7919) * 48271+104729)))) O=.nx [some (.int c),some (.int (n:Int)),some (.int ((c % 2147483647+7919) * 48271+104729)),some (.int c),none,none] O from rfl,bB,bD,show aC 4 (bK au) [some (.int c),some (.int (n:Int)),some (.int ((c % 2147483647+7919) * 48271+104729)),some (.int c),none,none] O=.nx [some (.int c),some (.int (n:Int)),some (.int ((c % 2147483647+7919) * 48271+104729)),some (.int c),some (.lst []),none] O from rfl,bB,bD,gf,lN (m:=aa 1) (n:=n) rfl (by omega),gh,e1,bB]
 rfl
theorem J8{α β:Type}{g:MG}{t:L2.M Bool}{m:L2.M D}(Pv:az->Prop)(f:α->D)(F:β->D)(Q:β->Prop):∀(xs:List α) (ρ:az) (O:ao) (acc:List D),Pv ρ ->
  (∀x∈xs,∀ρ,Pv ρ->∃ρ1,g (f x) ρ=some ρ1/\Pv ρ1/\t ρ1 O=.ok true O/\∃b,Q b/\m ρ1 O=.ok (F b) O)->∃bs:List β,bs.length=xs.length/\(∀b∈bs,Q b)/\cz g t m (xs.map f) ρ O acc=.ok (acc++bs.map F) O
 | [],ρ,O,acc,_,_=>⟨[],rfl,λb hb=>(nomatch hb),by simp[cz]⟩
 |x::xs,ρ,O,acc,hp,hs=>by
  obtain⟨ρ1,e1,h1,e2,b,hb,e3⟩:=hs x zr ρ hp
  obtain⟨bs,l1,l2,l3⟩:=J8 Pv f F Q xs ρ1 O (acc++[F b]) h1 λd' hd'=>hs d' (zw _ hd')
  refine⟨b::bs,by rw[zE,zE,l1],λy hy=>?_,?_⟩
  ·rcases zm.mp hy with rfl | hy
   ·exact hb
   ·exact l2 y hy
  ·rw[zj];unfold cz;rw[e1];dsimp only;rw[e2];dsimp only;rw[e3];dsimp only;rw[l3];simp
theorem J9{α:Type}(f:α->Int):∀l:List α,gJ (l.map λx=>.int (f x))=some (l.map f)
 | []=>rfl
 |x::l=>by
  show(gJ (l.map λx=>D.int (f x))).map _=_;rw[J9 f l];rfl
theorem YB{α:Type}(f:α->Int)(l:List α)(h:∀x∈l,0<=f x/\f x<=1000000)(hl:l.length<=1000000):nW [.lst (l.map λx=>.int (f x))]=some (.int (l.map f).sum):=by
 unfold nW;dsimp only;rw[J9];show(if _ then _ else _)=_;rw[if_pos];rw[zn,ji];refine⟨λn hn=>?_,zz (by rw[zd];exact hl)⟩;obtain⟨x,hx,rfl⟩:=zP.mp hn
 have:=h x hx
 simp[this]
def NOk(l:List Nat):Prop:=∀c∈l,c<1114112
def COk(c:C):Prop:=NOk c.1/\NOk c.2.1/\NOk c.2.2
def ROk(r:Row):Prop:=∀c∈r,COk c
theorem pB{c:Nat}(h:c<1114112):NOk [c]:=λx hx=>by rw[zp.mp hx];exact h
theorem YC:NOk []:=λx hx=>nomatch hx
theorem YD:COk bl:=⟨pB (by decide),pB (by decide),pB (by decide)⟩
theorem De{m:L2.M D}{ρ:az}{O O1:ao}{d:D}(h:m ρ O=.ok d O1):aW m ρ O=.rt d O1:=by rw[gR,h];rfl
def Bl(b:Row):Prop:=(∃c:C,b=[c]/\c.1≠[])\/∃c d:C,b=[c,d]/\c.1≠[]/\d.1=[]
def Wf(r:Row):Prop:=∃bs:List Row,(∀b∈bs,Bl b)/\r=bs.flatten
theorem YF:Wf []:=⟨[],λb hb=>(nomatch hb),rfl⟩
theorem Dg{a b:L2.M D}{ρ:az}{O:ao}{x y:Row}(ha:a ρ O=.ok (.lst (x.map dC)) O)(hb:b ρ O=.ok (.lst (y.map dC)) O)(hl:x.length+y.length<=10000):aj aN a b ρ O=.ok (.lst ((x++y).map dC)) O :=
 aU ha hb (by rw[mL,mL,HY,if_pos (by rw[zd,zd];omega),zD])
theorem YG{a b:Row}(h1:ROk a)(h2:ROk b):ROk (a++b):=λc hc=>by
 rcases zF.mp hc with hc | hc
 ·exact h1 c hc
 ·exact h2 c hc
theorem Dh{row:Row}{k s:Nat}(h:ROk row):ROk ((row.drop k).take s):=λc hc=>h c (List.mem_of_mem_drop (List.mem_of_mem_take hc))
def dRw(r:Row):D:=.lst (r.map dC)
def dP(P:List Row):D:=.lst (P.map dRw)
structure Pic(P:List Row)(h w:Nat):Prop where
 len:P.length=h
 wd:∀r∈P,r.length=w
 ok:∀r∈P,ROk r
 wf:∀r∈P,Wf r
theorem Ka(w:Nat):ROk (List.replicate w bl):=λc hc=>by rw[(List.mem_replicate.mp hc).2];exact YD
def bg:Nat->Row->List Nat
 | _,[]=>[]
 |k,c::r=>if c.1=[] then bg (k+1) r else k::bg (k+1) r
theorem Kc:∀(k:Nat) (a b:Row),bg k (a++b)=bg k a++bg (k+a.length) b
 |k,[],b=>rfl
 |k,c::a,b=>by
  show(if c.1=[] then bg (k+1) (a++b) else k::bg (k+1) (a++b))=(if c.1=[] then bg (k+1) a else k::bg (k+1) a)++_;rw[Kc (k+1) a b,zE,show k+1+a.length=k+(a.length+1) by omega]
  by_cases h:c.1=[]
  ·rw[if_pos h,if_pos h]
  ·rw[if_neg h,if_neg h];rfl
theorem Kd(k:Nat)(c:C):bg k [c]=if c.1=[] then[] else[k]:=rfl
def sps:Nat->List Row->List (Nat×Nat)
 | _,[]=>[]
 |k,b::bs=>(k,b.length)::sps (k+b.length) bs
theorem YH{b:Row}(h:Bl b)(k:Nat):bg k b=[k]:=by
 rcases h with⟨c,rfl,h1⟩ | ⟨c,d,rfl,h1,h2⟩
 ·rw[Kd,if_neg h1]
 ·show(if c.1=[] then bg (k+1) [d] else k::bg (k+1) [d])=_;rw[if_neg h1,Kd,if_pos h2]
theorem Ke:∀(k:Nat) (bs:List Row),(∀b∈bs,Bl b)->bg k bs.flatten=(sps k bs).map (·.1)
 |k,[],_=>rfl
 |k,b::bs,h=>by
  rw[List.flatten_cons,Kc,YH (h b zr),Ke (k+b.length) bs λx hx=>h x (zw _ hx)];rfl
def g01:MG:=fO 2 (cP (mgN 0) (cP (mgN 1) fU))
def t01:L2.M Bool:=aQ (aj gNe (aj gIx (aa 1) (mC (.int 0))) (mC (.str [])))
theorem Kf(k:Nat)(c:C)(O:ao):t01 [some (.int (k:Int)),some (dC c)] O=.ok (!decide (c.1=[])) O:=fX (aU (aU (x:=dC c) (y:=.int 0) rfl rfl rfl) rfl Ib)
theorem Di(O:ao):∀(r:Row) (k:Nat) (a0 a1:Option D) (acc:List D),cz g01 t01 (aa 0) (eZ k (r.map dC)) [a0,a1] O acc=.ok (acc++(bg k r).map λc:Nat=>D.int (c:Int)) O
 | [],k,a0,a1,acc=>by
  show Res.ok acc O=_;rw[show bg k []=[] from rfl,zN,zS]
 |c::r,k,a0,a1,acc=>by
  show cz g01 t01 (aa 0) (.tup [.int k,dC c]::eZ (k+1) (r.map dC)) [a0,a1] O acc=_;unfold cz;rw[show g01 (.tup [.int k,dC c]) [a0,a1]=some [some (.int (k:Int)),some (dC c)] from rfl];dsimp only;rw[Kf];show _=Res.ok (acc++(if c.1=[] then bg (k+1) r else k::bg (k+1) r).map λc:Nat=>D.int (c:Int)) O
  by_cases h:c.1=[]
  ·rw[zz h,if_pos h];exact Di O r (k+1) _ _ acc
  ·rw[zo h,if_neg h];show(match aa 0 [some (.int (k:Int)),some (dC c)] O with | .ok y O2=>cz g01 t01 (aa 0) (eZ (k+1) (r.map dC)) [some (.int (k:Int)),some (dC c)] O2 (acc++[y]) | .ex x O'=>.ex x O' | .no=>.no)=_;rw[show aa 0 [some (.int (k:Int)),some (dC c)] O=.ok (.int (k:Int)) O from rfl];dsimp only;refine(Di O r (k+1) _ _ (acc++[D.int (k:Int)])).trans ?_;rw[zJ];rfl
theorem Kg(O:ao)(n:Nat)(row:Row)(hn:O[n]?=some (.ml (row.map dC))):∀(pre r:Row),row=pre++r->∀(a0 a1:Option D) (acc:List D),iV n (row.map dC) g01 t01 (aa 0) (r.map dC) [a0,a1] O acc=.ok (acc++(bg pre.length r).map λc:Nat=>D.int (c:Int)) O
 |pre,[],hr,a0,a1,acc=>by
  rw[zN];unfold iV;rw[hn];dsimp only;rw[if_pos rfl,show bg pre.length []=[] from rfl,zN,zS]
 |pre,c::r,hr,a0,a1,acc=>by
  have hidx:(row.map dC).length - ((r.map dC).length+1)=pre.length:=by rw[zd,zd,hr,ze,zE];omega
  have hat:(row.map dC)[pre.length]?=some (dC c):=by rw[zl,hr,zI (zb _),Nat.sub_self];rfl
  have ih:=Kg O n row hn (pre++[c]) r (by rw[hr,zJ];rfl);rw[ze,zY] at ih;rw[zj];unfold iV;rw[hn];dsimp only;rw[hidx,hat];dsimp only;rw[show g01 (.tup [.int (pre.length:Int),dC c]) [a0,a1]=some [some (.int (pre.length:Int)),some (dC c)] from rfl];dsimp only;rw[Kf];show _=Res.ok (acc++(if c.1=[] then bg (pre.length+1) r else pre.length::bg (pre.length+1) r).map λc:Nat=>D.int (c:Int)) O
  by_cases h:c.1=[]
  ·rw[zz h,if_pos h];exact ih _ _ acc
  ·rw[zo h,if_neg h];show(match aa 0 [some (.int (pre.length:Int)),some (dC c)] O with | .ok y O2=>iV n (row.map dC) g01 t01 (aa 0) (r.map dC) [some (.int (pre.length:Int)),some (dC c)] O2 (acc++[y]) | .ex x O'=>.ex x O' | .no=>.no)=_;rw[show aa 0 [some (.int (pre.length:Int)),some (dC c)] O=.ok (.int (pre.length:Int)) O from rfl];dsimp only;refine(ih _ _ (acc++[D.int (pre.length:Int)])).trans ?_;rw[zJ];rfl
def dZ(p:Nat×Nat):D:=.tup [.int (p.1:Int),.int ((p.1+p.2:Nat):Int)]
theorem Kh:∀(k:Nat) (bs:List Row),di ((sps k bs).map λp=>D.int (p.1:Int)) (((sps k bs).map λp=>D.int (p.1:Int)).drop 1++[.int ((k+bs.flatten.length:Nat):Int)])=(sps k bs).map dZ
 |k,[]=>rfl
 |k,[b]=>by
  show[D.tup [.int (k:Int),.int ((k + [b].flatten.length:Nat):Int)]]=[dZ (k,b.length)];rw[List.flatten_singleton];rfl
 |k,b::b2::bs=>by
  have ih:=Kh (k+b.length) (b2::bs)
  have hl:k+(b::b2::bs).flatten.length=k+b.length+(b2::bs).flatten.length:=by rw[List.flatten_cons,ze];omega
  rw[hl];show D.tup [.int (k:Int),.int ((k+b.length:Nat):Int)]::di ((sps (k+b.length) (b2::bs)).map λp=>D.int (p.1:Int)) (((sps (k+b.length) (b2::bs)).map λp=>D.int (p.1:Int)).drop 1++[.int ((k+b.length+(b2::bs).flatten.length:Nat):Int)])=_;rw[ih];rfl
theorem Kl(bs:List Row)(hbs:∀b∈bs,Bl b)(hrow:bs.flatten.length<=100)(O:ao)(d:D)(hd:d=.lst (bs.flatten.map dC)\/∃n,d=.ob n/\O[n]?=some (.ml (bs.flatten.map dC))):oU [d] O=.ok (.lst ((sps 0 bs).map dZ)) O:=by
 have dd:aZ O d=.lst (bs.flatten.map dC):=by
  rcases hd with rfl | ⟨n,rfl,hn⟩
  ·rfl
  ·exact jt hn
 have hL:(bg 0 bs.flatten).map (λc:Nat=>D.int (c:Int))=(sps 0 bs).map λp=>D.int (p.1:Int):=by
  rw[Ke 0 bs hbs,jb];rfl
 have cE:lF (aa 0) 2 [] g01 t01 (aa 0) [some d,none] O=.ok (.lst ((sps 0 bs).map λp=>D.int (p.1:Int))) O:=by
  rw[<-hL]
  rcases hd with rfl | ⟨n,rfl,hn⟩
  ·show cI (n8 (aa 0)) 2 [] g01 t01 (aa 0) [some (.lst (bs.flatten.map dC)),none] O=_;have q:=jq (m:=n8 (aa 0)) (own:=2) (cap:=[]) (ρ:=[some (.lst (bs.flatten.map dC)),none]) (O:=O) (ds:=eZ 0 (bs.flatten.map dC)) rfl (by rw[nZ,zd];omega) (ρ0:=[none,none]) rfl (Di O bs.flatten 0 none none []);rw[q,zK]
  ·unfold lF;rw[show aa 0 [some (D.ob n),none] O=.ok (.ob n) O from rfl];dsimp only;rw[hn];dsimp only;rw[if_pos (by rw[zd];omega),show iK 2 [] [some (D.ob n),none]=[none,none] from rfl,Kg O n bs.flatten hn [] bs.flatten rfl none none [],aO,zK];rfl
 generalize hB:(sps 0 bs).map (λp=>D.int (p.1:Int))=L at cE
 have hLl:L.length<=100:=by
  rw[<-hB,<-hL,zd]
  have blen:∀(k:Nat) (r:Row),(bg k r).length<=r.length:=λk r=>by
   induction r generalizing k with
   |nil=>exact zb _
   |cons c r ih =>
    show(if c.1=[] then bg (k+1) r else k::bg (k+1) r).length<=r.length+1
    have:=ih (k+1)
    split
    ·omega
    ·rw[zE];omega
  exact zG (blen 0 bs.flatten) hrow
 have s1:aC 1 (lF (aa 0) 2 [] g01 t01 (aa 0)) [some d,none] O=.nx [some d,some (.lst L)] O:=bQ cE
 have c2:mSl (aa 1) (moS (mC (.int 1))) moN [some d,some (.lst L)] O=.ok (.lst (L.drop 1)) O:=by
  rw[qQ];show ofO (gSl (.lst L) (some 1) none) O=_;rw[uD,show(some (1:Int))=some ((1:Nat):Int) from rfl,J5,mJ]
 have ln:aX bF (ak (aa 0) au) [some d,some (.lst L)] O=.ok (.int (bs.flatten.length:Int)) O:=gk (xs:=[d]) rfl (by
  rw[zj,zN,dd];show some (D.int ((bs.flatten.map dC).length:Int))=_
  rw[zd])
 have c3:aj aN (mSl (aa 1) (moS (mC (.int 1))) moN) (bK (ak (aX bF (ak (aa 0) au)) au)) [some d,some (.lst L)] O=.ok (.lst (L.drop 1++[.int (bs.flatten.length:Int)])) O :=
  aU c2 (rY (ma1 ln) (show(1:Nat)<=1000000 by decide)) (by rw[mL,mL,HY,if_pos (by rw[List.length_drop,zY];omega)])
 have z:=Kh 0 bs;rw[hB,zC] at z;have c4:aX gLZ (ak (aa 1) (ak (aj aN (mSl (aa 1) (moS (mC (.int 1))) moN) (bK (ak (aX bF (ak (aa 0) au)) au))) au)) [some d,some (.lst L)] O=.ok (.lst ((sps 0 bs).map dZ)) O :=
  gk (maS (x:=.lst L) rfl (ma1 c3)) (by
   rw[zj,zj,zN,mL,mL];show some (D.lst (di L (L.drop 1++[.int (bs.flatten.length:Int)])))=_
   rw[z])
 show bx (uY [some d,none] O)=_;unfold uY;show bx (aB (aC 1 (lF (aa 0) 2 [] g01 t01 (aa 0))) (aW _) [some d,none] O)=_;rw[bD,s1,bB,De c4];rfl
theorem Km{cs:List Str}{f c:Str}{mo mv:L2.M D}{ρ:az}{O O1:ao}{n:Nat}{d:D}{fs:List (Str×D)}(hv:mv ρ O=.ok d O1)(ho:mo ρ O1=.ok (.ob n) O1)(hO:O1[n]?=some (.ins c fs))(hc:c∈cs)(hl:fs.length<900):
  j4 cs f mo mv ρ O=.nx ρ (O1.set n (.ins c (putD f d fs))):=by
 rw[WT,hv,WW,ho];unfold puF;dsimp only;rw[hO];dsimp only;rw[if_pos ⟨hc,hl⟩]
theorem Dj{cs:List Str}{f c:Str}{m:L2.M D}{ρ:az}{O:ao}{n:Nat}{y:D}{fs:List (Str×D)}(ho:m ρ O=.ok (.ob n) O)(hO:O[n]?=some (.ins c fs))(hc:c∈cs)(hy:fs.lookup f=some y):
  d8 cs f m ρ O=.ok y O:=by
 rw[WR,ho,aO];unfold Io;dsimp only;rw[hO];dsimp only;rw[if_pos hc,hy]
theorem nj{c m:Str}{cf:List D->ao->Res D}{mo:L2.M D}{ma:L2.M (List D)}{ρ:az}{O:ao}{n:Nat}{ds:List D}{fs:List (Str×D)}(ho:mo ρ O=.ok (.ob n) O)(hO:O[n]?=some (.ins c fs))(hm:(fs.lookup m).isNone=true)(ha:ma ρ O=.ok ds O):
  cR c m cf mo ma ρ O=cf (.ob n::ds) O:=by
 rw[WX,ho,aO];unfold meF;dsimp only;rw[hO];dsimp only;rw[if_pos ⟨rfl,hm⟩,ha,aO]
theorem su{O:ao}{o:Ob}:(O++[o])[O.length]?=some o:=by
 rw[zI (zb _),Nat.sub_self];rfl
theorem Ko{O:ao}{o o':Ob}:(O++[o]).set O.length o'=O++[o']:=by
 rw[List.set_append_right _ _ (zb _),Nat.sub_self];rfl
def seg(r:Row)(p:Nat×Nat):Row:=(r.drop p.1).take p.2
def alk(r q:Row)(p:Nat×Nat):Bool:=dz (dRw (seg r p)) (dRw (seg q p))
theorem sE{r:Row}(h:ROk r):dw (dRw r)=true/\(toP (dRw r)).canLay0=true/\(toP (dRw r)).depth<=8/\okE (dRw r)=true:=by
 have q:okE (.lst (r.map dC))=true:=Il (n:=5) (by decide) λd hd=>by
  obtain⟨x,hx,rfl⟩:=zP.mp hd;obtain⟨x1,x2,x3⟩:=h x hx;refine⟨rfl,?_,Nat.le_of_ble_eq_true rfl⟩;show((PyData.str (S x.1)).canLay0&&((PyData.str (S x.2.1)).canLay0&&((PyData.str (S x.2.2)).canLay0&&true)))=true;rw[qT x1,qT x2,qT x3];rfl
 have qq:=q;unfold okE at q;rw[zn] at q;refine⟨q.1,?_,?_,qq⟩
 ·have:=q.2
  unfold okD at this;rw[zn] at this;exact this.1
 ·unfold dRw;rw[toP,uI];show PyData.depthAll _+1<=8
  have z:PyData.depthAll ((r.map dC).map toP)<=5:=tQ λd hd=>by
   rw[jb] at hd;obtain⟨x,_,rfl⟩:=zP.mp hd;exact Nat.le_of_ble_eq_true rfl
  omega
theorem YJ{r q:Row}(hr:ROk r)(hq:ROk q)(p:Nat×Nat):gEq (dRw (seg r p)) (dRw (seg q p))=some (.bl (alk r q p)):=by
 unfold alk dRw;have h1:okE (.lst ((seg r p).map dC))=true:=(sE (r:=seg r p) (Dh hr)).2.2.2;have h2:okE (.lst ((seg q p).map dC))=true:=(sE (r:=seg q p) (Dh hq)).2.2.2;rw[Wu,h1,h2,Bool.and_self,if_pos rfl]
def Is(O:ao)(d:D)(r:Row):Prop:=d=.lst (r.map dC)\/∃n,d=.ob n/\O[n]?=some (.ml (r.map dC))
theorem Is.de{O:ao}{d:D}{r:Row}(h:Is O d r):aZ O d=.lst (r.map dC):=by
 rcases h with rfl | ⟨n,rfl,hn⟩
 ·rfl
 ·exact jt hn
theorem Is.app{O:ao}{d:D}{r:Row}(h:Is O d r)(o:Ob):Is (O++[o]) d r:=by
 rcases h with rfl | ⟨n,rfl,hn⟩
 ·exact .inl rfl
 ·refine .inr ⟨n,rfl,?_⟩;rw[zv (zh.mp hn).1,hn]
def fs1(bs:List Row):List (Str×D):=[("stretches",.lst ((sps 0 bs).map dZ))]
def fs2(r:Row)(bs:List Row):List (Str×D):=[("stretches",.lst ((sps 0 bs).map dZ)),("alike",.lst ((sps 0 bs).map λp=>D.bl (alk r bs.flatten p)))]
theorem pf1(bs:List Row):putD "stretches" (.lst ((sps 0 bs).map dZ)) []=fs1 bs:=rfl
theorem pf2(r:Row)(bs:List Row):putD "alike" (.lst ((sps 0 bs).map λp=>D.bl (alk r bs.flatten p))) (fs1 bs)=fs2 r bs:=rfl
theorem lk1(bs:List Row):(fs1 bs).lookup ("stretches":Str)=some (.lst ((sps 0 bs).map dZ)):=rfl
theorem lk2(r:Row)(bs:List Row):(fs2 r bs).lookup ("stretches":Str)=some (.lst ((sps 0 bs).map dZ)):=rfl
theorem lk3(r:Row)(bs:List Row):(fs2 r bs).lookup ("alike":Str)=some (.lst ((sps 0 bs).map λp=>D.bl (alk r bs.flatten p))):=rfl
theorem kj:∀(k:Nat) (bs:List Row),(sps k bs).length=bs.length
 | _,[]=>rfl
 |k,b::bs=>congrArg (· + 1) (kj _ bs)
theorem vV:∀{bs:List Row},(∀b∈bs,Bl b)->bs.length<=bs.flatten.length
 | [],_=>zb _
 |b::bs,h=>by
  rw[List.flatten_cons,ze,zE]
  have ih:=vV (bs:=bs) λx hx=>h x (zw _ hx)
  have hb:1<=b.length:=by
   rcases h b zr with⟨c,rfl,_⟩ | ⟨c,d,rfl,_⟩
   ·exact zb _
   ·exact Nat.le_succ _
  omega
theorem slD{m a b:L2.M D}{ρ:az}{O:ao}{d:D}{row:Row}{p:Nat×Nat}(hm:m ρ O=.ok d O)(hd:aZ O d=.lst (row.map dC))(ha:a ρ O=.ok (.int (p.1:Int)) O)(hb:b ρ O=.ok (.int ((p.1+p.2:Nat):Int)) O):mSl m (moS a) (moS b) ρ O=.ok (dRw (seg row p)) O:=by
 unfold dRw seg;rw[qQ,hm,aO,qP,ha,aO,qO,aO,qP,hb,aO,qO,aO,hd,uD,Yr,Nat.add_sub_cancel_left,mJ,List.map_take,List.map_drop]
theorem YK(O:ao){r:Row}{bs:List Row}(hbs:∀b∈bs,Bl b)(hl:bs.flatten.length<=100)(hr:ROk r)(hq:ROk bs.flatten){d e:D}(hd:Is O d r)(he:Is O e bs.flatten):
  rG [.ob O.length,d,e] (O++[.ins "Change" []])=.ok .non (O++[.ins "Change" (fs2 r bs)]):=by
 have he1:=Kl bs hbs hl (O++[.ins "Change" []]) e (he.app _)
 have s1:j4 ["Change"] "stretches" (aa 0) (aJ oU (ak (aa 2) au)) [some (.ob O.length),some d,some e] (O++[.ins "Change" []])=.nx [some (.ob O.length),some d,some e] (O++[.ins "Change" (fs1 bs)]):=by
  rw[Km (d:=.lst ((sps 0 bs).map dZ)) (n:=O.length) (c:="Change") (fs:=[]) (by rw[cL (ma1 (x:=e) rfl),he1]) rfl su zr (by decide),Ko,pf1]
 have hd2:=(hd.app (.ins "Change" (fs1 bs))).de;have he2:=(he.app (.ins "Change" (fs1 bs))).de;have g1:d8 ["Change"] "stretches" (aa 0) [some (.ob O.length),some d,some e] (O++[.ins "Change" (fs1 bs)])=.ok (.lst ((sps 0 bs).map dZ)) (O++[.ins "Change" (fs1 bs)]):=Dj (n:=O.length) (c:="Change") (fs:=fs1 bs) rfl su zr (lk1 _)
 have ec:=qW (g:=g01) (t:=cT) (m:=aj gEq (mSl (aa 2) (moS (aa 0)) (moS (aa 1))) (mSl (aa 3) (moS (aa 0)) (moS (aa 1)))) (λρ=>∃a b,ρ=[a,b,some d,some e]) dZ (λp=>D.bl (alk r bs.flatten p)) (sps 0 bs) [none,none,some d,some e] (O++[.ins "Change" (fs1 bs)]) [] ⟨_,_,rfl⟩ (by
  rintro p hp ρ ⟨a,b,rfl⟩;refine⟨[some (.int (p.1:Int)),some (.int ((p.1+p.2:Nat):Int)),some d,some e],rfl,⟨_,_,rfl⟩,rfl,aU (slD (p:=p) (d:=d) rfl hd2 rfl rfl) (slD (p:=p) (d:=e) rfl he2 rfl rfl) ?_⟩
  exact YJ hr hq p)
 rw[zK] at ec
 have hlen:((sps 0 bs).map dZ).length<=1000000:=by
  rw[zd,kj]
  have:=vV hbs
  omega
 have c2:=jq (own:=2) (cap:=[1,2]) (iB g1) hlen (ρ0:=[none,none,some d,some e]) rfl ec
 have s2:j4 ["Change"] "alike" (aa 0) (cI (cB (d8 ["Change"] "stretches" (aa 0))) 2 [1,2] g01 cT (aj gEq (mSl (aa 2) (moS (aa 0)) (moS (aa 1))) (mSl (aa 3) (moS (aa 0)) (moS (aa 1))))) [some (.ob O.length),some d,some e] (O++[.ins "Change" (fs1 bs)])=.nx [some (.ob O.length),some d,some e] (O++[.ins "Change" (fs2 r bs)]):=by
  rw[Km (n:=O.length) (c:="Change") (fs:=fs1 bs) c2 rfl su zr (show(1:Nat)<900 by decide),Ko,pf2]
 show bx (u0 [some (.ob O.length),some d,some e] (O++[.ins "Change" []]))=_;unfold u0;rw[bD,s1,bB];exact congrArg bx s2
def dN(k s:Nat):D:=.tup [.int (k:Int),.int (s:Int)]
def mvP(k:Nat):D:=.tup [.int 0,.str [112,97,115,115],dN (k+1) 0]
def mvW(k s:Nat)(p:Nat×Nat):D:=if s=0 then .tup [.int (4+(p.2:Int)),.str [98,101,103,105,110],dN (k+1) 1] else .tup [.int (p.2:Int),.str [111,110],dN (k+1) 1]
def mvL(r q:Row)(k:Nat)(p:Nat×Nat):List D:=if alk r q p=true then[mvP k] else[]
def mvs(r:Row)(bs:List Row)(k s:Nat):List D:=match(sps 0 bs)[k]? with
 |none=>[]
 |some p=>mvL r bs.flatten k p++[mvW k s p]
theorem YL(r q:Row)(k:Nat)(p:Nat×Nat):(mvL r q k p).length<=1:=by
 unfold mvL
 split
 ·exact zb _
 ·exact Nat.zero_le _
structure Tr(O:ao)(n:Nat)(r:Row)(bs:List Row):Prop where
 ob:O[n]?=some (.ins "Change" (fs2 r bs))
 bl:∀b∈bs,Bl b
 le:bs.flatten.length<=100
 r:ROk r
 q:ROk bs.flatten
section
variable {O:ao}{n:Nat}{r:Row}{bs:List Row}
theorem Dk(T:Tr O n r bs){ρ:az}(h:aa 0 ρ O=.ok (.ob n) O):d8 ["Change"] "stretches" (aa 0) ρ O=.ok (.lst ((sps 0 bs).map dZ)) O:=Dj (n:=n) h T.ob zr (lk2 _ _)
theorem YM(T:Tr O n r bs){ρ:az}(h:aa 0 ρ O=.ok (.ob n) O):d8 ["Change"] "alike" (aa 0) ρ O=.ok (.lst ((sps 0 bs).map λp=>D.bl (alk r bs.flatten p))) O:=Dj (n:=n) h T.ob zr (lk3 _ _)
theorem Dl(T:Tr O n r bs){ρ:az}(h:aa 0 ρ O=.ok (.ob n) O):aX bF (ak (d8 ["Change"] "stretches" (aa 0)) au) ρ O=.ok (.int (bs.length:Int)) O:=by
 have:=rZ (Dk T h)
 rwa [zd,kj] at this
theorem YQ:rE [.ob n] O=.ok (dN 0 0) O:=rfl
theorem YS(k:Nat):oJ [.ob n,.int (k:Int)] O=.ok (.lst [dN k 0,dN k 1]) O:=rfl
theorem YT(T:Tr O n r bs):rn [.ob n] O=.ok (.int (bs.length:Int)) O:=by
 show bx (uP [some (.ob n)] O)=_;unfold uP;rw[De (Dl T rfl)];rfl
theorem YW(T:Tr O n r bs)(k s:Nat):jL [.ob n,dN k s] O=.ok (.bl (decide ((k:Int)=(bs.length:Int)))) O:=by
 show bx (uN [some (.ob n),some (dN k s)] O)=_;unfold uN;rw[De (aU (x:=.int (k:Int)) (aU (x:=dN k s) (y:=.int 0) rfl rfl rfl) (Dl T rfl) Ia)];rfl
theorem YX(T:Tr O n r bs)(k s:Nat)(hk:k<=bs.length):jK [.ob n,dN k s] O=.ok (.lst (mvs r bs k s)) O:=by
 have s2:aC 2 (aj gIx (aa 1) (mC (.int 0))) [some (.ob n),some (dN k s),none,none,none] O=.nx [some (.ob n),some (dN k s),some (.int (k:Int)),none,none] O:=bQ (aU (x:=dN k s) (y:=.int 0) rfl rfl rfl);have t1:aQ (aj gEq (aa 2) (aX bF (ak (d8 ["Change"] "stretches" (aa 0)) au))) [some (.ob n),some (dN k s),some (.int (k:Int)),none,none] O=.ok (decide ((k:Int)=(bs.length:Int))) O:=CQ rfl (Dl T rfl);show bx (uM [some (.ob n),some (dN k s),none,none,none] O)=_;unfold uM;rw[bD,s2,bB,bD]
 by_cases hz:k=bs.length
 ·rw[gn (by rw[t1,zz (by omega)])]
  have:mvs r bs k s=[]:=by
   unfold mvs;rw[zV (by rw[kj];omega)]
  rw[this];rfl
 ·have hlt:k<(sps 0 bs).length:=by rw[kj];omega
  have hp:=zg hlt
  generalize (sps 0 bs)[k]=p at hp
  have hmv:mvs r bs k s=mvL r bs.flatten k p++[mvW k s p]:=by
   unfold mvs;rw[hp]
  rw[hmv,dD (by rw[t1,zo (by omega)]),iY,bB,bD,show aC 3 (bK au) [some (.ob n),some (dN k s),some (.int (k:Int)),none,none] O=.nx [some (.ob n),some (dN k s),some (.int (k:Int)),some (.lst []),none] O from rfl,bB,bD];have t2:bZ (aj gIx (d8 ["Change"] "alike" (aa 0)) (aa 2)) [some (.ob n),some (dN k s),some (.int (k:Int)),some (.lst []),none] O=.ok (alk r bs.flatten p) O:=sr (aU (YM T rfl) (y:=.int (k:Int)) rfl (jr (by rw[zl,hp];rfl)))
  have i2:bz (bZ (aj gIx (d8 ["Change"] "alike" (aa 0)) (aa 2))) (cQ 3 (bU (ak (mC (.int 0)) (ak (mC (.str [112,97,115,115])) (ak (bU (ak (aj aN (aa 2) (mC (.int 1))) (ak (mC (.int 0)) au))) au))))) bI [some (.ob n),some (dN k s),some (.int (k:Int)),some (.lst []),none] O=.nx [some (.ob n),some (dN k s),some (.int (k:Int)),some (.lst (mvL r bs.flatten k p)),none] O:=by
   unfold mvL
   cases hb:alk r bs.flatten p with
   |false =>
    rw[dD (by rw[t2,hb])];rfl
   |true =>
    rw[gn (by rw[t2,hb])];rfl
  rw[i2,bB,bD];have hL:=YL r bs.flatten k p
  generalize mvL r bs.flatten k p=L at hL
  have hz:gIx (.lst ((sps 0 bs).map dZ)) (.int (k:Int))=some (dZ p):=jr (by rw[zl,hp];rfl)
  have s4:aC 4 (aj dO (aj gIx (aj gIx (d8 ["Change"] "stretches" (aa 0)) (aa 2)) (mC (.int 1))) (aj gIx (aj gIx (d8 ["Change"] "stretches" (aa 0)) (aa 2)) (mC (.int 0)))) [some (.ob n),some (dN k s),some (.int (k:Int)),some (.lst L),none] O=.nx [some (.ob n),some (dN k s),some (.int (k:Int)),some (.lst L),some (.int (p.2:Int))] O:=by
   rw[show(p.2:Int)=((p.1+p.2:Nat):Int) - (p.1:Int) by omega];exact bQ (m8 (aU (y:=.int 1) (aU (y:=.int (k:Int)) (Dk T rfl) rfl hz) rfl rfl) (aU (y:=.int 0) (aU (y:=.int (k:Int)) (Dk T rfl) rfl hz) rfl rfl))
  rw[s4,bB,bD];have t3:aQ (aj gEq (aj gIx (aa 1) (mC (.int 1))) (mC (.int 0))) [some (.ob n),some (dN k s),some (.int (k:Int)),some (.lst L),some (.int (p.2:Int))] O=.ok (decide ((s:Int)=0)) O:=CQ (aU (x:=dN k s) (y:=.int 1) rfl rfl rfl) rfl
  have nd:∀ρ:az,aa 2 ρ O=.ok (.int (k:Int)) O->bU (ak (aj aN (aa 2) (mC (.int 1))) (ak (mC (.int 1)) au)) ρ O=.ok (dN (k+1) 1) O:=λρ h=>m7 (xs:=[.int ((k+1:Nat):Int),.int 1]) (maS (by rw[jl];exact dj h rfl) (ma1 (x:=.int 1) rfl)) (show(2:Nat)<=1000000 by decide)
  by_cases hs:s=0
  ·rw[gn (by rw[t3,zz (by omega)])]
   have a3:=kh (i:=3) (m:=bU (ak (aj aN (mC (.int 4)) (aa 4)) (ak (mC (.str [98,101,103,105,110])) (ak (bU (ak (aj aN (aa 2) (mC (.int 1))) (ak (mC (.int 1)) au))) au)))) (ρ:=[some (.ob n),some (dN k s),some (.int (k:Int)),some (.lst L),some (.int (p.2:Int))]) (O:=O) (d:=mvW k s p) (ds:=L) (by
    unfold mvW;rw[if_pos hs]
    exact m7 (maS (dj rfl rfl) (maS (x:=.str [98,101,103,105,110]) rfl (ma1 (nd _ rfl)))) (show(3:Nat)<=1000000 by decide)) rfl (by omega)
   rw[a3,bB];rfl
  ·rw[dD (by rw[t3,zo (by omega)])]
   have a3:=kh (i:=3) (m:=bU (ak (aa 4) (ak (mC (.str [111,110])) (ak (bU (ak (aj aN (aa 2) (mC (.int 1))) (ak (mC (.int 1)) au))) au)))) (ρ:=[some (.ob n),some (dN k s),some (.int (k:Int)),some (.lst L),some (.int (p.2:Int))]) (O:=O) (d:=mvW k s p) (ds:=L) (by
    unfold mvW;rw[if_neg hs]
    exact m7 (maS (x:=.int (p.2:Int)) rfl (maS (x:=.str [111,110]) rfl (ma1 (nd _ rfl)))) (show(3:Nat)<=1000000 by decide)) rfl (by omega)
   rw[a3,bB];rfl
end
theorem sq{a b:MS}{ρ ρ':az}{O O':ao}(h:a ρ O=.nx ρ' O'):aB a b ρ O=b ρ' O':=by
 rw[bD,h,bB]
theorem jN{i:Nat}{m:L2.M D}{ρ:az}{O O':ao}{d:D}(h:m ρ O=.ok d O'):aC i m ρ O=.nx (ρ.set i (some d)) O':=by
 rw[yF,h,yG]
abbrev Nd:=Int×Int
def nN(n:Nd):D:=.tup [.int n.1,.int n.2]
def key(n:Nd):List Key:=[.inl n.1,.inl n.2]
structure M3 where
 cost:Int
 name:List Nat
 other:Nd
def d3(m:M3):D:=.tup [.int m.cost,.str m.name,nN m.other]
def oD:Option Int->D
 |none=>.non
 |some i=>.int i
abbrev Tb:=List (Nd×Option Int)
def tab(ps:Tb):List (List Key×D):=ps.map λx=>(key x.1,oD x.2)
def lk(ps:Tb)(n:Nd):Option (Option Int):=(ps.find? λx=>decide (x.1=n)).map (·.2)
def pu(ps:Tb)(n:Nd)(v:Option Int):Tb:=if(ps.any λx=>decide (x.1=n))=true then ps.map (λx=>if x.1=n then(x.1,v) else x) else ps++[(n,v)]
theorem sG(n:Nd):qD (nN n)=some (key n):=rfl
theorem sH{a b:Nd}:key a=key b↔a=b:=by
 obtain⟨a1,a2⟩:=a;obtain⟨b1,b2⟩:=b;unfold key;simp
theorem Kq(n:Nd):∀ps:Tb,gK (tab ps) (key n)=(lk ps n).map oD
 | []=>rfl
 |x::ps=>by
  have ih:=Kq n ps;unfold gK lk tab at *;rw[zj,List.find?_cons,List.find?_cons]
  by_cases h:x.1=n
  ·simp[h]
  ·have h':¬key x.1=key n:=λz=>h (sH.mp z)
   simp only[h,h',decide_false];exact ih
theorem Kr(n:Nd):∀ps:Tb,((tab ps).any λp=>decide (p.1=key n))=ps.any λx=>decide (x.1=n)
 | []=>rfl
 |x::ps=>by
  have ih:=Kr n ps;unfold tab at *;rw[zj,List.any_cons,List.any_cons,ih];congr 1;exact decide_eq_decide.mpr sH
theorem YZ(ps:Tb)(n:Nd)(v:Option Int):mH (tab ps) (key n) (oD v)=tab (pu ps n v):=by
 unfold mH pu;rw[Kr]
 split
 ·unfold tab;rw[jb,jb]
  refine jo λx _=>?_
  by_cases h:x.1=n
  ·simp[h]
  ·have h':¬key x.1=key n:=λz=>h (sH.mp z)
   simp[h,h']
 ·unfold tab;rw[zD];rfl
theorem Dm{n:Nd}:∀{ps:Tb},(ps.any λx=>decide (x.1=n))=false->lk ps n=none
 | [],_=>rfl
 |x::ps,h=>by
  rw[List.any_cons,Bool.or_eq_false_iff] at h
  have:=Dm h.2
  unfold lk at *;rw[List.find?_cons,h.1];exact this
theorem pC(x:Nd×Option Int)(ps:Tb)(n:Nd):lk (x::ps) n=if x.1=n then some x.2 else lk ps n:=by
 unfold lk;rw[List.find?_cons]
 by_cases h:x.1=n
 ·simp[h]
 ·simp[h]
theorem Ks(n:Nd)(y:Nd×Option Int):∀ps:Tb,lk (ps++[y]) n=if(lk ps n).isSome=true then lk ps n else if y.1=n then some y.2 else none
 | []=>by
  rw[zK,pC];rfl
 |x::ps=>by
  rw[List.cons_append,pC,pC,Ks n y ps]
  by_cases h:x.1=n
  ·simp[h]
  ·simp[h]
theorem Ku(n m:Nd)(v:Option Int):∀ps:Tb,lk (ps.map λx=>if x.1=n then(x.1,v) else x) m=if m=n then(lk ps m).map λ_=>v else lk ps m
 | []=>by simp[lk]
 |x::ps=>by
  rw[zj,pC,pC,Ku n m v ps]
  by_cases h:x.1=n
  ·by_cases hm:m=n
   ·subst hm;simp[h]
   ·have:¬n=m:=λz=>hm z.symm
    simp[h,hm,this]
  ·by_cases hx:x.1=m
   ·have:¬m=n:=λz=>h (hx.trans z)
    simp[h,hx,this]
   ·simp[h,hx]
theorem Kv{n:Nd}:∀{ps:Tb},(ps.any λx=>decide (x.1=n))=true->(lk ps n).isSome=true
 |x::ps,h=>by
  rw[pC]
  by_cases hx:x.1=n
  ·simp[hx]
  ·rw[if_neg hx];rw[List.any_cons,zo hx,Bool.false_or] at h;exact Kv h
theorem Kw(ps:Tb)(n m:Nd)(v:Option Int):lk (pu ps n v) m=if m=n then some v else lk ps m:=by
 unfold pu
 split
 ·rename_i h;rw[Ku]
  split
  ·rename_i hm;subst hm
   have:=Kv h
   cases e:lk ps m with
   |none=>rw[e] at this;cases this
   |some w=>rfl
  ·rfl
 ·rename_i h;have h0:=Dm (Bool.eq_false_iff.mpr h);rw[Ks]
  by_cases hm:m=n
  ·subst hm;simp[h0]
  ·have:¬n=m:=λz=>hm z.symm
   simp[hm,this]
   cases lk ps m<;>simp
theorem Y0(ps:Tb)(n:Nd)(v:Option Int):(pu ps n v).length<=ps.length+1:=by
 unfold pu
 split
 ·rw[zd];omega
 ·rw[ze];exact zb _
theorem Y4{ps:Tb}{n:Nd}{v:Option Int}(h:(lk ps n).isSome=true):(pu ps n v).length=ps.length:=by
 unfold pu
 split
 ·rw[zd]
 ·rename_i h';rw[Dm (Bool.eq_false_iff.mpr h')] at h;cases h
theorem Dn{mo my:L2.M D}{ρ:az}{O:ao}{p:Nat}{ps:Tb}{n:Nd}{v:Option Int}(h1:mo ρ O=.ok (.ob p) O)(h2:O[p]?=some (.dt (tab ps)))(h3:my ρ O=.ok (nN n) O)(h4:lk ps n=some v):dI mo my ρ O=.ok (oD v) O:=by
 unfold dI;rw[h1];dsimp only[aO];rw[h3];dsimp only[aO];unfold tsG;rw[sG,h2];dsimp only;unfold tsF;rw[sG,h2];dsimp only;rw[Kq,h4];rfl
theorem Ky{mo my mv:L2.M D}{ρ:az}{O:ao}{p:Nat}{ps:Tb}{n:Nd}{v:Option Int}(h0:mv ρ O=.ok (oD v) O)(h1:mo ρ O=.ok (.ob p) O)(h2:O[p]?=some (.dt (tab ps)))(h3:my ρ O=.ok (nN n) O)(hl:ps.length<1000000):gM mo my mv ρ O=.nx ρ (O.set p (.dt (tab (pu ps n v)))):=by
 unfold gM;rw[h0];dsimp only;rw[h1];dsimp only;rw[h3];dsimp only;rw[sG,h2];dsimp only;rw[if_pos (by unfold tab;rw[zd];exact hl),YZ]
def co(ps:Tb)(m:M3):Option Int:=match lk ps m.other with
 |some (some b)=>some (m.cost+b)
 | _=>none
def lc(ps:Tb)(ms:List M3):Option Int:=mdI none (ms.filterMap (co ps))
theorem Kz{O:ao}{p:Nat}{ps:Tb}{m:M3}(hp:O[p]?=some (.dt (tab ps)))(hm:(lk ps m.other).isSome=true):j8 [d3 m,.ob p] O=.ok (oD (co ps m)) O:=by
 obtain⟨v,hv⟩:=Option.isSome_iff_exists.mp hm;have s1:dI (mG (aa 1)) (aj gIx (aa 0) (mC (.int 2))) [some (d3 m),some (.ob p),none] O=.ok (oD v) O:=Dn rfl hp (aU rfl rfl rfl) hv;show bx (uJ [some (d3 m),some (.ob p),none] O)=_;unfold uJ;rw[sq (bQ s1),gR];unfold co;rw[hv]
 cases v with
 |none=>rfl
 |some b=>rfl
theorem ints_map:∀is:List Int,gJ (is.map D.int)=some is
 | []=>rfl
 |i::is=>by
  show(gJ (is.map D.int)).map (i :: ·)=_;rw[ints_map is];rfl
theorem KD(ps:Tb):∀ms:List M3,(ms.map λm=>oD (co ps m)).filter (λd=>!isNon d)=(ms.filterMap (co ps)).map D.int
 | []=>rfl
 |m::ms=>by
  rw[zj,List.filter_cons,List.filterMap_cons,KD ps ms]
  cases co ps m<;>rfl
theorem KH{O:ao}{p:Nat}{ps:Tb}{ms:List M3}(hp:O[p]?=some (.dt (tab ps)))(hm:∀m∈ms,(lk ps m.other).isSome=true)(hl:ms.length<=1000):mV [.lst (ms.map d3),.ob p] O=.ok (oD (lc ps ms)) O:=by
 have c1:cz (mgN 0) cT (aJ j8 (ak (aa 0) (ak (aa 1) au))) (ms.map d3) [none,some (.ob p)] O []=.ok (ms.map λm=>oD (co ps m)) O:=by
  rw[qW (λρ=>∃a,ρ=[a,some (.ob p)]) d3 (λm=>oD (co ps m)) ms _ _ _ ⟨none,rfl⟩ (by
   rintro m hm' ρ ⟨a,rfl⟩
   exact⟨_,rfl,⟨_,rfl⟩,rfl,(cL (maS rfl (ma1 rfl))).trans (Kz hp (hm m hm'))⟩)]
  rw[zK]
 have s1:cI (cB (aa 0)) 1 [1] (mgN 0) cT (aJ j8 (ak (aa 0) (ak (aa 1) au))) [some (.lst (ms.map d3)),some (.ob p),none] O=.ok (.lst (ms.map λm=>oD (co ps m))) O:=jq (iB rfl) (by rw[zd];omega) rfl c1
 have c2:cz (mgN 0) (aQ (iJ (aa 0))) (aa 0) (ms.map λm=>oD (co ps m)) [none] O []=.ok ((ms.filterMap (co ps)).map D.int) O:=by
  rw[Ij (λρ=>∃a,ρ=[a]) (λd=>!isNon d) _ _ _ _ ⟨none,rfl⟩ (by
   rintro d hd ρ ⟨a,rfl⟩
   exact⟨_,rfl,⟨_,rfl⟩,rfl,rfl⟩)]
  rw[zK,KD]
 have s2:cI (cB (aa 2)) 1 [] (mgN 0) (aQ (iJ (aa 0))) (aa 0) [some (.lst (ms.map d3)),some (.ob p),some (.lst (ms.map λm=>oD (co ps m)))] O=.ok (.lst ((ms.filterMap (co ps)).map D.int)) O:=jq (iB rfl) (by rw[zd];omega) rfl c2
 have s3:aX ur (ak (cI (cB (aa 2)) 1 [] (mgN 0) (aQ (iJ (aa 0))) (aa 0)) au) [some (.lst (ms.map d3)),some (.ob p),some (.lst (ms.map λm=>oD (co ps m)))] O=.ok (oD (lc ps ms)) O:=gk (ma1 s2) (by
  show(gJ ((ms.filterMap (co ps)).map D.int)).map _=_;rw[ints_map];show some (match mdI none (ms.filterMap (co ps)) with | some m=>D.int m | none=>D.non)=some (oD (mdI none (ms.filterMap (co ps))))
  cases mdI none (ms.filterMap (co ps))<;>rfl)
 show bx (uK [some (.lst (ms.map d3)),some (.ob p),none] O)=_;unfold uK;rw[sq (bQ s1),gR];exact congrArg (λr=>bx (iZ r)) s3
theorem KJ{ps ps':Tb}:∀{ms:List M3},(∀m∈ms,lk ps' m.other=lk ps m.other)->ms.filterMap (co ps')=ms.filterMap (co ps)
 | [],_=>rfl
 |m::ms,h=>by
  have e:co ps' m=co ps m:=by
   unfold co;rw[h m zr]
  rw[List.filterMap_cons,List.filterMap_cons,e,KJ λx hx=>h x (zw _ hx)]
theorem vW{ps ps':Tb}{ms:List M3}(h:∀m∈ms,lk ps' m.other=lk ps m.other):lc ps' ms=lc ps ms:=by
 unfold lc;rw[KJ h]
structure Trl(t:Nat)(fs:List (Str×D))(N:Nat)(nodes:Nat->List Nd)(mv:Nd->List M3)(fin:Nd->Bool):Prop where
 na:∀(O:ao) (a:Nat),O[t]?=some (.ins "Change" fs)->a<=N->oJ [.ob t,.int a] O=.ok (.lst ((nodes a).map nN)) O
 mf:∀(O:ao) (a:Nat) (n:Nd),O[t]?=some (.ins "Change" fs)->a<=N->n∈nodes a->jK [.ob t,nN n] O=.ok (.lst ((mv n).map d3)) O
 ie:∀(O:ao) (a:Nat) (n:Nd),O[t]?=some (.ins "Change" fs)->a<=N->n∈nodes a->jL [.ob t,nN n] O=.ok (.bl (fin n)) O
 la:∀O:ao,O[t]?=some (.ins "Change" fs)->rn [.ob t] O=.ok (.int N) O
 fi:∀O:ao,O[t]?=some (.ins "Change" fs)->rE [.ob t] O=.ok (nN (0,0)) O
 f0:((0,0):Nd)∈nodes 0
 nd:∀a,(nodes a).Nodup
 ln:∀a,(nodes a).length<=10
 fw:∀(a:Nat) (n:Nd),a<=N->n∈nodes a->∀m∈mv n,∃b,a<b/\b<=N/\m.other∈nodes b
 sp:∀(a b:Nat) (n:Nd),n∈nodes a->n∈nodes b->a=b
 ml:∀n,(mv n).length<=1000
 fe:∀n,fin n=true->mv n=[]
 u1:(fs.lookup ("nodes_at":Str)).isNone=true
 u2:(fs.lookup ("moves_from":Str)).isNone=true
 u3:(fs.lookup ("is_end":Str)).isNone=true
 u4:(fs.lookup ("last_at":Str)).isNone=true
 u5:(fs.lookup ("first_node":Str)).isNone=true
 hN:N<=1000
def cj(mv:Nd->List M3)(ns:List Nd):List (List Key×D):=ns.map λn=>(key n,D.lst ((mv n).map d3))
theorem KN(mv:Nd->List M3)(n:Nd):∀ns:List Nd,((cj mv ns).any λp=>decide (p.1=key n))=decide (n∈ns)
 | []=>rfl
 |x::ns=>by
  have ih:=KN mv n ns;unfold cj at *;rw[zj,List.any_cons,ih]
  by_cases h:x=n
  ·subst h;simp
  ·have h1:¬key x=key n:=λz=>h (sH.mp z)
   have h2:¬n=x:=λz=>h z.symm
   simp[h1,h2]
theorem Y5{mv:Nd->List M3}{ns:List Nd}{n:Nd}(h:n∉ns):mH (cj mv ns) (key n) (.lst ((mv n).map d3))=cj mv (ns++[n]):=by
 unfold mH;rw[KN,zo h,if_neg zk];unfold cj;rw[zD];rfl
theorem KQ(mv:Nd->List M3)(n:Nd):∀ns:List Nd,n∈ns->gK (cj mv ns) (key n)=some (.lst ((mv n).map d3))
 |x::ns,h=>by
  unfold gK cj;rw[zj,List.find?_cons]
  by_cases hx:x=n
  ·subst hx;simp
  ·have h1:¬key x=key n:=λz=>hx (sH.mp z)
   simp only[h1,decide_false]
   rcases zm.mp h with rfl | h
   ·exact absurd rfl hx
   ·exact KQ mv n ns h
theorem Y6(mv:Nd->List M3)(ns:List Nd):(cj mv ns).map yw=ns.map nN:=by
 unfold cj;rw[jb];rfl
def B_1:MS:=(aB (gM (aa 3) (aa 4) (cR "Change" "moves_from" jK (mG (aa 0)) (ak (aa 4) au)))
  (gM (mG (aa 2)) (aa 4) (mIf (bZ (cR "Change" "is_end" jL (mG (aa 0)) (ak (aa 4) au))) (mC (.int 0)) (mC .non))))
def ini(fin:Nd->Bool)(n:Nd):Option Int:=if fin n=true then some 0 else none
theorem sI{O:ao}{i j:Nat}{x y:Ob}(h1:O[i]?=some x)(h2:O[j]?=some y)(h:x≠y):i≠j:=λz=>by
 rw[z,h2] at h1;exact h (zx h1).symm
theorem pF{O:ao}{i:Nat}{x y:Ob}(e:O[i]?=some x):(O.set i y)[i]?=some y:=by
 obtain⟨h,_⟩:=zh.mp e;simp[h]
section
variable {t:Nat}{fs:List (Str×D)}{N:Nat}{nodes:Nat->List Nd}{mv:Nd->List M3}{fin:Nd->Bool}{p q:Nat}
theorem Y7(T:Trl t fs N nodes mv fin){a:Nat}(ha:a<=N){n:Nd}(hn:n∈nodes a){pre:List Nd}(hp':n∉pre){O:ao}{cur:Tb}(ht:O[t]?=some (.ins "Change" fs))(hp:O[p]?=some (.dt (tab cur)))(hq:O[q]?=some (.dt (cj mv pre)))(hpq:p≠q)(hl:cur.length<1000000)(hl2:pre.length<1000000)(o5 o6:Option D):
  B_1 [some (.ob t),some (.int a),some (.ob p),some (.ob q),some (nN n),o5,o6] O=.nx [some (.ob t),some (.int a),some (.ob p),some (.ob q),some (nN n),o5,o6] ((O.set q (.dt (cj mv (pre++[n])))).set p (.dt (tab (pu cur n (ini fin n))))):=by
 have tq:t≠q:=sI ht hq (λz=>nomatch z);have tp:t≠p:=sI ht hp (λz=>nomatch z);have e1:cR "Change" "moves_from" jK (mG (aa 0)) (ak (aa 4) au) [some (.ob t),some (.int a),some (.ob p),some (.ob q),some (nN n),o5,o6] O=.ok (.lst ((mv n).map d3)) O:=(nj rfl ht T.u2 (ma1 rfl)).trans (T.mf O a n ht ha hn)
 have s1:gM (aa 3) (aa 4) (cR "Change" "moves_from" jK (mG (aa 0)) (ak (aa 4) au)) [some (.ob t),some (.int a),some (.ob p),some (.ob q),some (nN n),o5,o6] O=.nx [some (.ob t),some (.int a),some (.ob p),some (.ob q),some (nN n),o5,o6] (O.set q (.dt (cj mv (pre++[n])))):=by
  unfold gM;rw[e1];dsimp only;rw[show(aa 3) [some (.ob t),some (.int a),some (.ob p),some (.ob q),some (nN n),o5,o6] O=.ok (.ob q) O from rfl];dsimp only;rw[show(aa 4) [some (.ob t),some (.int a),some (.ob p),some (.ob q),some (nN n),o5,o6] O=.ok (nN n) O from rfl];dsimp only;rw[sG,hq];dsimp only;rw[if_pos (by unfold cj;rw[zd];exact hl2),Y5 hp']
 have ht':(O.set q (.dt (cj mv (pre++[n]))))[t]?=some (.ins "Change" fs):=by rw[zt (Ne.symm tq)];exact ht
 have hp2:(O.set q (.dt (cj mv (pre++[n]))))[p]?=some (.dt (tab cur)):=by rw[zt (Ne.symm hpq)];exact hp
 have e2:cR "Change" "is_end" jL (mG (aa 0)) (ak (aa 4) au) [some (.ob t),some (.int a),some (.ob p),some (.ob q),some (nN n),o5,o6] (O.set q (.dt (cj mv (pre++[n]))))=.ok (.bl (fin n)) (O.set q (.dt (cj mv (pre++[n])))):=(nj rfl ht' T.u3 (ma1 rfl)).trans (T.ie _ a n ht' ha hn)
 have e3:mIf (bZ (cR "Change" "is_end" jL (mG (aa 0)) (ak (aa 4) au))) (mC (.int 0)) (mC .non) [some (.ob t),some (.int a),some (.ob p),some (.ob q),some (nN n),o5,o6] (O.set q (.dt (cj mv (pre++[n]))))=.ok (oD (ini fin n)) (O.set q (.dt (cj mv (pre++[n])))):=by
  rw[uB,qM,e2,aO,jJ,qN,qL,aO];unfold ini
  cases fin n<;>rfl
 unfold B_1;rw[sq s1];exact Ky e3 rfl hp2 rfl hl
theorem KR(T:Trl t fs N nodes mv fin){a:Nat}(ha:a<=N)(hpq:p≠q)(o5 o6:Option D):∀(rest pre:List Nd) (O:ao) (cur:Tb) (o4:Option D),(∀n∈rest,n∈nodes a)->(pre++rest).Nodup->O[t]?=some (.ins "Change" fs)->O[p]?=some (.dt (tab cur))->O[q]?=some (.dt (cj mv pre))->cur.length+rest.length<1000000->pre.length+rest.length<1000000 ->
  ∃O' cur' o4',cY (mgN 4) B_1 (rest.map nN) [some (.ob t),some (.int a),some (.ob p),some (.ob q),o4,o5,o6] O=.nx [some (.ob t),some (.int a),some (.ob p),some (.ob q),o4',o5,o6] O'/\O'[p]?=some (.dt (tab cur'))/\O'[q]?=some (.dt (cj mv (pre++rest)))/\(∀j,j≠p->j≠q->O'[j]?=O[j]?)/\(∀n,lk cur' n=if n∈rest then some (ini fin n) else lk cur n)/\cur'.length<=cur.length+rest.length
 | [],pre,O,cur,o4,_,_,_,hp,hq,_,_=>⟨O,cur,o4,rfl,hp,by rw[zS];exact hq,λ_ _ _=>rfl,λn=>by simp,zb _⟩
 |n::rest,pre,O,cur,o4,hr,hd,ht,hp,hq,hl,hl2=>by
  rw[zE] at hl hl2;have hn:=hr n zr
  have hnp:n∉pre:=λz=>(zZ.mp hd).2.2 n z n zr rfl
  have hnr:n∉rest:=λz=>(List.nodup_cons.mp (zZ.mp hd).2.1).1 z
  have eb:=Y7 T ha hn hnp ht hp hq hpq (by omega) (by omega) o5 o6;have tq:t≠q:=sI ht hq (λz=>nomatch z);have tp:t≠p:=sI ht hp (λz=>nomatch z);have hpl:=Y0 cur n (ini fin n);obtain⟨O',cur',o4',e,h1,h2,h3,h4,h5⟩:=KR T ha hpq o5 o6 rest (pre++[n]) ((O.set q (.dt (cj mv (pre++[n])))).set p (.dt (tab (pu cur n (ini fin n))))) (pu cur n (ini fin n)) (some (nN n)) (λm hm=>hr m (zw _ hm)) (by rw[zJ];exact hd)
   (by rw[zt (Ne.symm tp),zt (Ne.symm tq)];exact ht) (pF (by rw[zt (Ne.symm hpq)];exact hp)) (by rw[zt hpq];exact pF hq) (by omega) (by rw[ze,zY];omega)
  refine⟨O',cur',o4',?_,h1,by rw[zJ] at h2;exact h2,λj j1 j2=>?_,λm=>?_,by rw[zE];omega⟩
  ·rw[zj];unfold cY;rw[mg_n];dsimp only
   show(match B_1 [some (.ob t),some (.int a),some (.ob p),some (.ob q),some (nN n),o5,o6] O with
    | .nx ρ' O'=>cY _ _ (rest.map nN) ρ' O' | .ct ρ' O'=>cY _ _ (rest.map nN) ρ' O' | .bk ρ' O'=>Fl.nx ρ' O' | r=>r)=_
   rw[eb];exact e
  ·rw[h3 j j1 j2,zt (Ne.symm j1),zt (Ne.symm j2)]
  ·rw[h4 m,Kw]
   by_cases hm:m=n
   ·subst hm;simp[hnr]
   ·simp[hm]
end
theorem Y8{mo my:L2.M D}{ρ:az}{O:ao}{q:Nat}{kvs:List (List Key×D)}{n:Nd}{d:D}(h1:mo ρ O=.ok (.ob q) O)(h2:O[q]?=some (.df kvs))(h3:my ρ O=.ok (nN n) O)(h4:gK kvs (key n)=some d):dI mo my ρ O=.ok d O:=by
 unfold dI;rw[h1];dsimp only[aO];rw[h3];dsimp only[aO];unfold tsG;rw[sG,h2];dsimp only;rw[h4]
def B_r:MS:=(aB (aC 6 (aJ mV (ak (dI (aa 3) (aa 4)) (ak (aa 2) au))))
  (bz (lg (aQ (iJ (aa 6))) (fL (aQ (jA (dI (mG (aa 2)) (aa 4)))) (aQ (aj gLt (aa 6) (dI (mG (aa 2)) (aa 4)))))) (aB (gM (mG (aa 2)) (aa 4) (aa 6))
  (aC 5 (mC (.bl true)))) bI))
def better(v L:Option Int):Bool:=match L with
 |none=>false
 |some c=>match v with
  |none=>true
  |some w=>decide (c<w)
section
variable {t:Nat}{fs:List (Str×D)}{N:Nat}{nodes:Nat->List Nd}{mv:Nd->List M3}{fin:Nd->Bool}{p q:Nat}
theorem Y9{ns:List Nd}{n:Nd}(hn:n∈ns){O:ao}{cur:Tb}{v:Option Int}(hp:O[p]?=some (.dt (tab cur)))(hq:O[q]?=some (.df (cj mv ns)))(hv:lk cur n=some v)(hm:∀m∈mv n,(lk cur m.other).isSome=true)(hml:(mv n).length<=1000)(hl:cur.length<1000000)(b:Bool)(a0 a1 o6:Option D):
  B_r [a0,a1,some (.ob p),some (.ob q),some (nN n),some (.bl b),o6] O=.nx [a0,a1,some (.ob p),some (.ob q),some (nN n),some (.bl (b || better v (lc cur (mv n)))),some (oD (lc cur (mv n)))] (if better v (lc cur (mv n))=true then O.set p (.dt (tab (pu cur n (lc cur (mv n))))) else O):=by
 have s1:dI (aa 3) (aa 4) [a0,a1,some (.ob p),some (.ob q),some (nN n),some (.bl b),o6] O=.ok (.lst ((mv n).map d3)) O:=Y8 rfl hq rfl (KQ mv n ns hn);have s2:aJ mV (ak (dI (aa 3) (aa 4)) (ak (aa 2) au)) [a0,a1,some (.ob p),some (.ob q),some (nN n),some (.bl b),o6] O=.ok (oD (lc cur (mv n))) O:=(cL (maS s1 (ma1 rfl))).trans (KH hp hm hml)
 have e2:∀o6':Option D,dI (mG (aa 2)) (aa 4) [a0,a1,some (.ob p),some (.ob q),some (nN n),some (.bl b),o6'] O=.ok (oD v) O:=λo6'=>Dn rfl hp rfl hv
 unfold B_r;rw[sq (bQ s2)];show bz _ _ _ [a0,a1,some (.ob p),some (.ob q),some (nN n),some (.bl b),some (oD (lc cur (mv n)))] O=_
 cases hL:lc cur (mv n) with
 |none =>
  refine(dD ?_).trans ?_
  ·rw[uy];rfl
  ·show Fl.nx _ O=_;simp[better]
 |some c =>
  have hput:(aB (gM (mG (aa 2)) (aa 4) (aa 6)) (aC 5 (mC (.bl true)))) [a0,a1,some (.ob p),some (.ob q),some (nN n),some (.bl b),some (oD (some c))] O=.nx [a0,a1,some (.ob p),some (.ob q),some (nN n),some (.bl true),some (oD (some c))] (O.set p (.dt (tab (pu cur n (some c))))):=by
   rw[sq (Ky (v:=some c) rfl rfl hp rfl hl)];rfl
  have tA:aQ (iJ (aa 6)) [a0,a1,some (.ob p),some (.ob q),some (nN n),some (.bl b),some (oD (some c))] O=.ok true O:=rfl
  have tB:aQ (jA (dI (mG (aa 2)) (aa 4))) [a0,a1,some (.ob p),some (.ob q),some (nN n),some (.bl b),some (oD (some c))] O=.ok (isNon (oD v)) O:=by
   rw[ux,Wc,e2,aO,aO,HQ]
  cases v with
  |none =>
   refine(gn ?_).trans ?_
   ·rw[uy,tA,aO,if_pos rfl,uz,tB,aO];rfl
   ·rw[hput];simp[better]
  |some w =>
   have tC:aQ (aj gLt (aa 6) (dI (mG (aa 2)) (aa 4))) [a0,a1,some (.ob p),some (.ob q),some (nN n),some (.bl b),some (oD (some c))] O=.ok (decide (c<w)) O:=fX (aU (x:=.int c) rfl (e2 _) rfl)
   have tD:lg (aQ (iJ (aa 6))) (fL (aQ (jA (dI (mG (aa 2)) (aa 4)))) (aQ (aj gLt (aa 6) (dI (mG (aa 2)) (aa 4))))) [a0,a1,some (.ob p),some (.ob q),some (nN n),some (.bl b),some (oD (some c))] O=.ok (decide (c<w)) O:=by
    rw[uy,tA,aO,if_pos rfl,uz,tB,aO];exact tC
   by_cases hw:c<w
   ·rw[zz hw] at tD;rw[gn tD,hput];simp[better,hw]
   ·rw[zo hw] at tD;rw[dD tD];show Fl.nx _ O=_;simp[better,hw]
def fnl(fin:Nd->Bool)(L:Nd->Option Int)(n:Nd):Option Int:=if fin n=true then some 0 else L n
theorem Za{fin:Nd->Bool}{L:Nd->Option Int}{n:Nd}{v:Option Int}(hf:fin n=true->L n=none)(hv:v=ini fin n\/v=fnl fin L n):(if better v (L n)=true then L n else v)=fnl fin L n:=by
 unfold fnl ini at *
 cases h:fin n with
 |true =>
  have:=hf h
  rw[this];rw[h] at hv
  rcases hv with rfl | rfl<;>rfl
 |false =>
  rw[h] at hv
  rcases hv with rfl | rfl
  ·cases L n<;>rfl
  ·simp only[Bool.false_eq_true,if_false]
   split<;>rfl
theorem Zb{fin:Nd->Bool}{L:Nd->Option Int}{n:Nd}(hf:fin n=true->L n=none):better (fnl fin L n) (L n)=false:=by
 unfold fnl
 cases h:fin n with
 |true =>
  rw[hf h];rfl
 |false =>
  simp only[Bool.false_eq_true,if_false]
  cases L n with
  |none=>rfl
  |some c=>simp[better]
theorem KY(T:Trl t fs N nodes mv fin){a:Nat}(ha:a<=N){base:Tb}(hb:∀n∈nodes a,∀m∈mv n,(lk base m.other).isSome=true)(st:Nd->Option Int)(hst:∀n∈nodes a,st n=ini fin n\/st n=fnl fin (λn=>lc base (mv n)) n)(a0 a1:Option D):
  ∀(rest:List Nd) (O:ao) (cur:Tb) (b:Bool) (o4 o6:Option D),(∀n∈rest,n∈nodes a)->rest.Nodup->O[p]?=some (.dt (tab cur))->O[q]?=some (.df (cj mv (nodes a)))->p≠q->(∀m,m∉nodes a->lk cur m=lk base m)->(∀n∈rest,lk cur n=some (st n))->cur.length<1000000 ->
  ∃O' cur' o4' o6',cY (mgN 4) B_r (rest.map nN) [a0,a1,some (.ob p),some (.ob q),o4,some (.bl b),o6] O=.nx [a0,a1,some (.ob p),some (.ob q),o4',some (.bl (b || rest.any λn=>better (st n) (lc base (mv n)))),o6'] O'/\O'[p]?=some (.dt (tab cur'))/\(∀j,j≠p->O'[j]?=O[j]?)/\(∀m,lk cur' m=if m∈rest then some (fnl fin (λn=>lc base (mv n)) m) else lk cur m)/\cur'.length<=cur.length
 | [],O,cur,b,o4,o6,_,_,hp,_,_,_,_,_=>⟨O,cur,o4,o6,by simp[cY],hp,λ_ _=>rfl,λm=>by simp,zb _⟩
 |n::rest,O,cur,b,o4,o6,hr,hd,hp,hq,hpq,hc,hs,hl=>by
  have hn:=hr n zr;have hd':=List.nodup_cons.mp hd
  have far:∀m∈mv n,m.other∉nodes a:=λm hm z=>by
   obtain⟨b,b1,b2,b3⟩:=T.fw a n ha hn m hm
   have:=T.sp a b _ z b3
   omega
  have eL:lc cur (mv n)=lc base (mv n):=vW λm hm=>hc _ (far m hm)
  have hm:∀m∈mv n,(lk cur m.other).isSome=true:=λm hm=>by rw[hc _ (far m hm)];exact hb n hn m hm
  have eb:=Y9 hn hp hq (hs n zr) hm (T.ml n) hl b a0 a1 o6;rw[eL] at eb;have fx:=Za (L:=λn=>lc base (mv n)) (λh=>by show lc base (mv n)=none;rw[T.fe n h];rfl) (hst n hn)
  have hsome:(lk cur n).isSome=true:=by rw[hs n zr];rfl
  have go:∀(O1:ao) (cur1:Tb),O1[p]?=some (.dt (tab cur1))->(∀j,j≠p->O1[j]?=O[j]?)->(∀m,lk cur1 m=if m=n then some (fnl fin (λn=>lc base (mv n)) n) else lk cur m)->cur1.length<=cur.length->(if better (st n) (lc base (mv n))=true then O.set p (.dt (tab (pu cur n (lc base (mv n))))) else O)=O1 ->
    ∃O' cur' o4' o6',cY (mgN 4) B_r ((n::rest).map nN) [a0,a1,some (.ob p),some (.ob q),o4,some (.bl b),o6] O=.nx [a0,a1,some (.ob p),some (.ob q),o4',some (.bl (b || (n::rest).any λn=>better (st n) (lc base (mv n)))),o6'] O'/\O'[p]?=some (.dt (tab cur'))/\(∀j,j≠p->O'[j]?=O[j]?)/\(∀m,lk cur' m=if m∈n::rest then some (fnl fin (λn=>lc base (mv n)) m) else lk cur m)/\cur'.length<=cur.length:=λO1 cur1 k1 k2 k3 k4 k5=>by
   obtain⟨O',cur',o4',o6',e,g1,g2,g3,g4⟩:=KY T ha hb st hst a0 a1 rest O1 cur1 (b || better (st n) (lc base (mv n))) (some (nN n)) (some (oD (lc base (mv n)))) (λm hm=>hr m (zw _ hm)) hd'.2 k1 ((k2 q (Ne.symm hpq)).trans hq) hpq (λm hm=>by
     rw[k3 m,if_neg (λz:m=n=>hm (by rw[z];exact hn))]
     exact hc m hm) (λm hm=>by
     rw[k3 m,if_neg (λz:m=n=>hd'.1 (by rw[<-z];exact hm))]
     exact hs m (zw _ hm)) (by omega)
   refine⟨O',cur',o4',o6',?_,g1,λj hj=>(g2 j hj).trans (k2 j hj),λm=>?_,by omega⟩
   ·rw[zj];unfold cY;rw[mg_n];dsimp only
    show(match B_r [a0,a1,some (.ob p),some (.ob q),some (nN n),some (.bl b),o6] O with
     | .nx ρ' O'=>cY _ _ (rest.map nN) ρ' O' | .ct ρ' O'=>cY _ _ (rest.map nN) ρ' O' | .bk ρ' O'=>Fl.nx ρ' O' | r=>r)=_
    rw[eb,k5];rw[List.any_cons,<-Bool.or_assoc];exact e
   ·rw[g3 m,k3 m]
    by_cases hmn:m=n
    ·subst hmn;simp[hd'.1]
    ·simp[hmn]
  cases hbt:better (st n) (lc base (mv n)) with
  |true =>
   rw[hbt] at fx;refine go (O.set p (.dt (tab (pu cur n (lc base (mv n)))))) (pu cur n (lc base (mv n))) (pF hp) (λj hj=>by rw[zt (Ne.symm hj)]) (λm=>?_) (Nat.le_of_eq (Y4 hsome)) (by rw[hbt];rfl);rw[Kw,<-fx];rfl
  |false =>
   rw[hbt] at fx;refine go O cur hp (λ_ _=>rfl) (λm=>?_) (zb _) (by rw[hbt];rfl)
   split
   ·rename_i hmn;rw[hmn,<-fx];exact hs n zr
   ·rfl
end
def B_n:MS:=(aB (aC 5 (mC (.bl false)))
  (oF 3 (bY (oE (aa 3)) (mgN 4) B_r)))
section
variable {t:Nat}{fs:List (Str×D)}{N:Nat}{nodes:Nat->List Nd}{mv:Nd->List M3}{fin:Nd->Bool}{p q:Nat}
theorem KZ(T:Trl t fs N nodes mv fin){a:Nat}(ha:a<=N){base:Tb}(hb:∀n∈nodes a,∀m∈mv n,(lk base m.other).isSome=true)(st:Nd->Option Int)(hst:∀n∈nodes a,st n=ini fin n\/st n=fnl fin (λn=>lc base (mv n)) n)(a0 a1 o4 o5 o6:Option D){O:ao}{cur:Tb}
  (hp:O[p]?=some (.dt (tab cur))) (hq:O[q]?=some (.dt (cj mv (nodes a)))) (hpq:p≠q) (hc:∀m,m∉nodes a->lk cur m=lk base m) (hs:∀n∈nodes a,lk cur n=some (st n)) (hl:cur.length<1000000):
  ∃O' cur' o4' o6',B_n [a0,a1,some (.ob p),some (.ob q),o4,o5,o6] O=.nx [a0,a1,some (.ob p),some (.ob q),o4',some (.bl ((nodes a).any λn=>better (st n) (lc base (mv n)))),o6'] O'/\O'[p]?=some (.dt (tab cur'))/\O'[q]?=some (.dt (cj mv (nodes a)))/\(∀j,j≠p->j≠q->O'[j]?=O[j]?)/\(∀m,m∉nodes a->lk cur' m=lk base m)/\(∀n∈nodes a,lk cur' n=some (fnl fin (λn=>lc base (mv n)) n))/\cur'.length<=cur.length:=by
 have hq1:(O.set q (.df (cj mv (nodes a))))[q]?=some (.df (cj mv (nodes a))):=pF hq
 have hp1:(O.set q (.df (cj mv (nodes a))))[p]?=some (.dt (tab cur)):=by rw[zt (Ne.symm hpq)];exact hp
 obtain⟨O',cur',o4',o6',e,g1,g2,g3,g4⟩:=KY T ha hb st hst a0 a1 (nodes a) (O.set q (.df (cj mv (nodes a)))) cur false o4 o6 (λn h=>h) (T.nd a) hp1 hq1 hpq hc hs hl;rw[Bool.false_or] at e;have hq2:O'[q]?=some (.df (cj mv (nodes a))):=(g2 q (Ne.symm hpq)).trans hq1;refine⟨O'.set q (.dt (cj mv (nodes a))),cur',o4',o6',?_,?_,pF hq2,λj j1 j2=>?_,λm hm=>?_,λn hn=>?_,g4⟩
 ·have ek:oE (aa 3) [a0,a1,some (.ob p),some (.ob q),o4,some (.bl false),o6] O=.ok ((nodes a).map nN) (O.set q (.df (cj mv (nodes a)))):=by
   unfold oE;rw[show(aa 3) [a0,a1,some (.ob p),some (.ob q),o4,some (.bl false),o6] O=.ok (.ob q) O from rfl];dsimp only[aO];rw[hq];dsimp only;rw[Y6]
  have ef:bY (oE (aa 3)) (mgN 4) B_r [a0,a1,some (.ob p),some (.ob q),o4,some (.bl false),o6] O=.nx [a0,a1,some (.ob p),some (.ob q),o4',some (.bl ((nodes a).any λn=>better (st n) (lc base (mv n)))),o6'] O':=by
   rw[gf,ek,gh,e]
  unfold B_n;rw[sq (bQ (m_c (d:=.bl false)))];show oF 3 _ [a0,a1,some (.ob p),some (.ob q),o4,some (.bl false),o6] O=_;unfold oF;show(match O[q]? with | some (.dt _)=>_ | _=>Fl.no)=_;rw[hq];dsimp only;rw[ef];dsimp only;rw[hq2]
 ·rw[zt (Ne.symm hpq)];exact g1
 ·rw[zt (Ne.symm j2),g2 j j1,zt (Ne.symm j2)]
 ·rw[g3 m,if_neg hm];exact hc m hm
 ·rw[g3 n,if_pos hn]
theorem vX{t:L2.M Bool}{b:MS}{k:Nat}{ρ ρ2:az}{O O2:ao}(h:t ρ O=.ok true O)(hb:b ρ O=.nx ρ2 O2):fV t b (k+1) ρ O=fV t b k ρ2 O2:=by
 show(match t ρ O with | .ok true O1=>(match b ρ O1 with | .nx ρ2 O2=>fV t b k ρ2 O2 | .ct ρ2 O2=>fV t b k ρ2 O2 | .bk ρ2 O2=>Fl.nx ρ2 O2 | r=>r) | .ok false O1=>.nx ρ O1 | .ex x O'=>.ex x O' | .no=>.no)=_;rw[h];dsimp only;rw[hb]
theorem Do{t:L2.M Bool}{b:MS}{k:Nat}{ρ:az}{O:ao}(h:t ρ O=.ok false O):fV t b (k+1) ρ O=.nx ρ O:=by
 show(match t ρ O with | .ok true O1=>(match b ρ O1 with | .nx ρ2 O2=>fV t b k ρ2 O2 | .ct ρ2 O2=>fV t b k ρ2 O2 | .bk ρ2 O2=>Fl.nx ρ2 O2 | r=>r) | .ok false O1=>.nx ρ O1 | .ex x O'=>.ex x O' | .no=>.no)=_;rw[h]
theorem Zc(T:Trl t fs N nodes mv fin){a:Nat}(ha:a<=N){O:ao}{cur:Tb}(ht:O[t]?=some (.ins "Change" fs))(hp:O[p]?=some (.dt (tab cur)))(hb:∀n∈nodes a,∀m∈mv n,(lk cur m.other).isSome=true)(hl:cur.length<900000):
  ∃O' cur',qZ [.ob t,.int a,.ob p] O=.ok .non O'/\O'[p]?=some (.dt (tab cur'))/\(∀(j:Nat) (x:Ob),j≠p->O[j]?=some x->O'[j]?=some x)/\(∀m,m∉nodes a->lk cur' m=lk cur m)/\(∀n∈nodes a,lk cur' n=some (fnl fin (λn=>lc cur (mv n)) n))/\cur'.length<=cur.length+10:=by
 have hln:=T.ln a;have hpl:=(zh.mp hp).1;have htl:=(zh.mp ht).1;have hpq:p≠O.length:=zB hpl
 have ht1:(O++[Ob.dt []])[t]?=some (.ins "Change" fs):=by rw[zv htl];exact ht
 have hp1:(O++[Ob.dt []])[p]?=some (.dt (tab cur)):=by rw[zv hpl];exact hp
 have hq1:(O++[Ob.dt []])[O.length]?=some (.dt (cj mv [])):=by simp[cj]
 obtain⟨O1,cur1,o4,e1,f1,f2,f3,f4,f5⟩:=KR T ha hpq none none (nodes a) [] (O++[Ob.dt []]) cur none (λn h=>h) (T.nd a) ht1 hp1 hq1 (by omega) (by simp;omega);rw[zK] at f2
 have far:∀n∈nodes a,∀m∈mv n,m.other∉nodes a:=λn hn m hm z=>by
  obtain⟨b,b1,b2,b3⟩:=T.fw a n ha hn m hm
  have:=T.sp a b _ z b3
  omega
 have hf:∀n,fin n=true->lc cur (mv n)=none:=λn h=>by rw[T.fe n h];rfl
 obtain⟨O2,cur2,o4',o6',e2,g1,g2,g3,g4,g5,g6⟩:=KZ (base:=cur) T ha hb (ini fin) (λn _=>.inl rfl) (some (.ob t)) (some (.int a)) o4 (some (.bl true)) none f1 f2 hpq (λm hm=>by rw[f4 m,if_neg hm]) (λn hn=>by rw[f4 n,if_pos hn]) (by omega);obtain⟨O3,cur3,o4'',o6'',e3,k1,k2,k3,k4,k5,k6⟩:=KZ (base:=cur) T ha hb (fnl fin λn=>lc cur (mv n)) (λn _=>.inr rfl) (some (.ob t)) (some (.int a)) o4' (some (.bl true)) o6' g1 g2 hpq g4 g5 (by omega)
 have z3:((nodes a).any λn=>better (fnl fin (λn=>lc cur (mv n)) n) (lc cur (mv n)))=false:=by
  rw[List.any_eq_false];intro n _;rw[Zb (L:=λn=>lc cur (mv n)) (hf n)];exact zk
 rw[z3] at e3;have hnew:qG [some (.ob t),some (.int a),some (.ob p),none,none,none,none] O=.ok (.ob O.length) (O++[Ob.dt []]):=rfl;have s2:(cB (cR "Change" "nodes_at" oJ (mG (aa 0)) (ak (aa 1) au))) [some (.ob t),some (.int a),some (.ob p),some (.ob O.length),none,none,none] (O++[Ob.dt []])=.ok ((nodes a).map nN) (O++[Ob.dt []]):=iB ((nj rfl ht1 T.u1 (ma1 rfl)).trans (T.na _ a ht1 ha))
 have s3:bY (cB (cR "Change" "nodes_at" oJ (mG (aa 0)) (ak (aa 1) au))) (mgN 4) B_1 [some (.ob t),some (.int a),some (.ob p),some (.ob O.length),none,none,none] (O++[Ob.dt []])=.nx [some (.ob t),some (.int a),some (.ob p),some (.ob O.length),o4,none,none] O1:=by
  rw[gf,s2,gh,e1]
 have old:∀(j:Nat) (x:Ob),j≠p->O[j]?=some x->O1[j]?=some x:=λj x hj hx=>by
  have:=(zh.mp hx).1
  rw[f3 j hj (by omega),zv this];exact hx
 have nq:∀(j:Nat) (x:Ob),O[j]?=some x->j≠O.length:=λj x hx=>zB (zh.mp hx).1
 have fin':∀(O':ao) (cur':Tb) (x4 x6:Option D),fV (bZ (aa 5)) B_n 10 [some (.ob t),some (.int a),some (.ob p),some (.ob O.length),o4,some (.bl true),none] O1=.nx [some (.ob t),some (.int a),some (.ob p),some (.ob O.length),x4,some (.bl false),x6] O'->O'[p]?=some (.dt (tab cur'))->(∀(j:Nat) (x:Ob),j≠p->O[j]?=some x->O'[j]?=some x)->(∀m,m∉nodes a->lk cur' m=lk cur m)->(∀n∈nodes a,lk cur' n=some (fnl fin (λn=>lc cur (mv n)) n))->cur'.length<=cur.length+10 ->
   ∃O' cur',qZ [.ob t,.int a,.ob p] O=.ok .non O'/\O'[p]?=some (.dt (tab cur'))/\(∀(j:Nat) (x:Ob),j≠p->O[j]?=some x->O'[j]?=some x)/\(∀m,m∉nodes a->lk cur' m=lk cur m)/\(∀n∈nodes a,lk cur' n=some (fnl fin (λn=>lc cur (mv n)) n))/\cur'.length<=cur.length+10:=λO' cur' x4 x6 hw h1 h2 h3 h4 h5=>by
  refine⟨O',cur',?_,h1,h2,h3,h4,h5⟩;unfold B_1 at s3;unfold B_n B_r at hw;show bx (uO [some (.ob t),some (.int a),some (.ob p),none,none,none,none] O)=_;unfold uO;rw[sq (jN hnew)];show bx (aB _ _ [some (.ob t),some (.int a),some (.ob p),some (.ob O.length),none,none,none] (O++[Ob.dt []]))=_;rw[sq s3,sq (bQ (m_c (d:=.bl true)))];show bx (lu 10 _ _ [some (.ob t),some (.int a),some (.ob p),some (.ob O.length),o4,some (.bl true),none] O1)=_;unfold lu;rw[hw];rfl
 cases hb1:(nodes a).any λn=>better (ini fin n) (lc cur (mv n)) with
 |true =>
  rw[hb1] at e2;refine fin' O3 cur3 o4'' o6'' ?_ k1 (λj x hj hx=>by rw[k3 j hj (nq j x hx),g3 j hj (nq j x hx)];exact old j x hj hx) k4 k5 (by omega);rw[vX rfl e2,vX rfl e3,Do rfl]
 |false =>
  rw[hb1] at e2;refine fin' O2 cur2 o4' o6' ?_ g1 (λj x hj hx=>by rw[g3 j hj (nq j x hx)];exact old j x hj hx) g4 g5 (by omega);rw[vX rfl e2,Do rfl]
end
theorem K1{α:Type}{g:MG}{t:L2.M Bool}{m:L2.M D}(Pv:az->Prop)(p:α->Bool)(f:α->D):∀(xs:List α) (ρ:az) (O:ao) (acc:List D),Pv ρ->(∀x∈xs,∀ρ,Pv ρ->∃ρ1,g (f x) ρ=some ρ1/\Pv ρ1/\t ρ1 O=.ok (p x) O/\m ρ1 O=.ok (f x) O)->cz g t m (xs.map f) ρ O acc=.ok (acc++(xs.filter p).map f) O
 | [],ρ,O,acc,_,_=>by simp[cz]
 |x::xs,ρ,O,acc,h,hs=>by
  obtain⟨ρ1,e1,h1,e2,e3⟩:=hs x zr ρ h
  have ih:=λacc=>K1 (g:=g) (t:=t) (m:=m) Pv p f xs ρ1 O acc h1 λd' hd'=>hs d' (zw _ hd')
  rw[zj];unfold cz;rw[e1];dsimp only;rw[e2]
  cases q:p x with
  |true =>
   dsimp only;rw[e3];dsimp only;rw[ih,List.filter_cons,q];simp
  |false =>
   dsimp only;rw[ih,List.filter_cons,q];simp
theorem Zd(b:Nat):iW (((b+1:Nat):Int) - 1) (b+1)=.int (b:Int)::iW ((b:Int) - 1) b:=by
 unfold iW;rw[List.range_succ_eq_map,zj,jb];congr 1
 ·show D.int _=_;congr 1;omega
 ·refine jo λi _=>?_
  show D.int _=D.int _;congr 1;omega
def Pri(N:Nat)(nodes:Nat->List Nd)(mv:Nd->List M3)(fin:Nd->Bool)(b:Nat)(cur:Tb):Prop:=∀c,b<=c->c<=N->∀n∈nodes c,lk cur n=some (fnl fin (λn=>lc cur (mv n)) n)
def B_p:MS:=(qe (aJ qZ (ak (aa 0) (ak (aa 2) (ak (aa 1) au)))))
section
variable {t:Nat}{fs:List (Str×D)}{N:Nat}{nodes:Nat->List Nd}{mv:Nd->List M3}{fin:Nd->Bool}{p q:Nat}
theorem K3(T:Trl t fs N nodes mv fin):∀(b:Nat) (O:ao) (cur:Tb) (o2:Option D),b<=N+1->O[t]?=some (.ins "Change" fs)->O[p]?=some (.dt (tab cur))->Pri N nodes mv fin b cur->cur.length+10 * b<=800000 ->
  ∃O' cur' o2',cY (mgN 2) B_p (iW ((b:Int) - 1) b) [some (.ob t),some (.ob p),o2] O=.nx [some (.ob t),some (.ob p),o2'] O'/\O'[p]?=some (.dt (tab cur'))/\(∀(j:Nat) (x:Ob),j≠p->O[j]?=some x->O'[j]?=some x)/\Pri N nodes mv fin 0 cur'
 | 0,O,cur,o2,_,_,hp,hP,_=>⟨O,cur,o2,rfl,hp,λ_ _ _ h=>h,hP⟩
 |a+1,O,cur,o2,hb,ht,hp,hP,hl=>by
  have ha:a<=N:=by omega
  have hbs:∀n∈nodes a,∀m∈mv n,(lk cur m.other).isSome=true:=λn hn m hm=>by
   obtain⟨c,c1,c2,c3⟩:=T.fw a n ha hn m hm;rw[hP c (by omega) c2 _ c3];rfl
  obtain⟨O1,cur1,e,g1,g2,g3,g4,g5⟩:=Zc T ha ht hp hbs (by omega);have tp:t≠p:=sI ht hp (λz=>nomatch z)
  have hP1:Pri N nodes mv fin a cur1:=λc c1 c2 n hn=>by
   have far:∀m∈mv n,lk cur1 m.other=lk cur m.other:=λm hm=>g3 _ λz=>by
    obtain⟨d,d1,d2,d3⟩:=T.fw c n c2 hn m hm
    have:=T.sp a d _ z d3
    omega
   have eL:lc cur1 (mv n)=lc cur (mv n):=vW far
   have eF:fnl fin (λn=>lc cur1 (mv n)) n=fnl fin (λn=>lc cur (mv n)) n:=by
    show(if fin n=true then some 0 else lc cur1 (mv n))=_;rw[eL];rfl
   rw[eF]
   by_cases hc:c=a
   ·subst hc;exact g4 n hn
   ·rw[g3 n λz=>hc (T.sp c a n hn z)];exact hP c (by omega) c2 n hn
  obtain⟨O',cur',o2',e2,k1,k2,k3⟩:=K3 T a O1 cur1 (some (.int (a:Int))) (by omega) (g2 t _ tp ht) g1 hP1 (by omega);refine⟨O',cur',o2',?_,k1,λj x hj hx=>k2 j x hj (g2 j x hj hx),k3⟩;rw[Zd];unfold cY;rw[mg_n];dsimp only
  have eb:B_p [some (.ob t),some (.ob p),some (.int (a:Int))] O=.nx [some (.ob t),some (.ob p),some (.int (a:Int))] O1:=by
   unfold B_p;rw[Wh,cL (maS rfl (maS rfl (ma1 rfl))),e,Wi]
  show(match B_p [some (.ob t),some (.ob p),some (.int (a:Int))] O with
   | .nx ρ' O'=>cY _ _ (iW ((a:Int) - 1) a) ρ' O' | .ct ρ' O'=>cY _ _ (iW ((a:Int) - 1) a) ρ' O' | .bk ρ' O'=>Fl.nx ρ' O' | r=>r)=_
  rw[eb];exact e2
theorem Ze(T:Trl t fs N nodes mv fin){O:ao}(ht:O[t]?=some (.ins "Change" fs)):∃O' cur,uR [.ob t] O=.ok (.ob O.length) O'/\O'[O.length]?=some (.dt (tab cur))/\(∀(j:Nat) (x:Ob),O[j]?=some x->O'[j]?=some x)/\Pri N nodes mv fin 0 cur:=by
 have hN:=T.hN;have htl:=(zh.mp ht).1
 have ht1:(O++[Ob.dt []])[t]?=some (.ins "Change" fs):=by rw[zv htl];exact ht
 obtain⟨O',cur,o2,e,g1,g2,g3⟩:=K3 (p:=O.length) T (N+1) (O++[Ob.dt []]) [] none (zb _) ht1 (by simp[tab]) (λc c1 c2=>absurd c1 (by omega)) (by simp;omega);refine⟨O',cur,?_,g1,λj x hx=>?_,g3⟩
 ·have er:uv (ak (cR "Change" "last_at" rn (mG (aa 0)) au) (ak (mUn jV (mC (.int 1))) (ak (mUn jV (mC (.int 1))) au))) [some (.ob t),some (.ob O.length),none] (O++[Ob.dt []])=.ok (iW (((N+1:Nat):Int) - 1) (N+1)) (O++[Ob.dt []]):=by
   unfold uv;rw[maS ((nj rfl ht1 T.u4 rfl).trans (T.la _ ht1)) (maS (x:=.int (-1)) rfl (ma1 (x:=.int (-1)) rfl))];dsimp only[aO];rw[if_pos ⟨rfl,by omega,by omega,by decide,by decide⟩];congr 1;rw[show((N:Int) - -1).toNat=N+1 by omega,show(((N+1:Nat):Int) - 1)=(N:Int) by omega]
  unfold B_p at e;show bx (uQ [some (.ob t),none,none] O)=_;unfold uQ;rw[sq (jN (show qG [some (.ob t),none,none] O=.ok (.ob O.length) (O++[Ob.dt []]) from rfl))];show bx (aB _ _ [some (.ob t),some (.ob O.length),none] (O++[Ob.dt []]))=_;rw[bD,gf,er,gh,e,bB];rfl
 ·have:=(zh.mp hx).1
  exact g2 j x (by omega) (by rw[zv this];exact hx)
theorem Dp:∀(l:List Int) (b:Option Int) (c:Int),mdI b l=some c->b=some c\/c∈l
 | [],b,c,h=>.inl (by cases b<;>exact h)
 |n::r,none,c,h=>by
  rcases Dp r (some n) c h with h | h
  ·exact .inr (by rw[zx h];exact zr)
  ·exact .inr (zw _ h)
 |n::r,some m,c,h=>by
  rcases Dp r (some (if n<m then n else m)) c h with h | h
  ·split at h
   ·exact .inr (by rw[zx h];exact zr)
   ·exact .inl h
  ·exact .inr (zw _ h)
theorem K4:∀(l:List Int) (b:Int),∃c,mdI (some b) l=some c
 | [],b=>⟨b,rfl⟩
 |n::r,b=>K4 r (if n<b then n else b)
theorem Zf{l:List Int}(h:l≠[]):∃c,mdI none l=some c:=by
 cases l with
 |nil=>exact absurd rfl h
 |cons n r=>exact K4 r n
theorem Zg(x y:Option Int):gEq (oD x) (oD y)=some (.bl (decide (x=y))):=by
 cases x with
 |none=>cases y<;>rfl
 |some i =>
  cases y with
  |none=>rfl
  |some j =>
   show some (D.bl (decide (i=j)))=_;congr 2;exact decide_eq_decide.mpr ⟨λh=>by rw[h],λh=>zx h⟩
theorem K5{α:Type}(f:α->Bool)(g:α->D)(h:α->Bool):∀(ms:List α) (m:α),ms.find? f=some m->((ms.filter f).map g)[0]?=some (g m)
 |x::ms,m,e=>by
  rw[List.find?_cons] at e
  cases hx:f x with
  |true =>
   rw[hx] at e;cases e;simp[hx]
  |false =>
   rw[hx] at e;rw[List.filter_cons,hx];exact K5 f g h ms m e
theorem Zh{O:ao}{ps:Tb}{ms:List M3}{c:Int}(hp:O[p]?=some (.dt (tab ps)))(hm:∀m∈ms,(lk ps m.other).isSome=true)(hl:ms.length<=1000)(hc:lc ps ms=some c):
  ∃m,ms.find? (λm=>decide (co ps m=lc ps ms))=some m/\m∈ms/\co ps m=some c/\rz [.lst (ms.map d3),.ob p] O=.ok (d3 m) O:=by
 obtain⟨x,hx,hxc⟩:∃x∈ms,co ps x=some c:=by
  rcases Dp _ _ _ hc with h | h
  ·cases h
  ·exact List.mem_filterMap.mp h
 obtain⟨m,em⟩:∃m,ms.find? (λm=>decide (co ps m=lc ps ms))=some m:=by
  cases e:ms.find? (λm=>decide (co ps m=lc ps ms)) with
  |some m=>exact⟨m,rfl⟩
  |none =>
   have:=List.find?_eq_none.mp e x hx
   rw[hxc,hc] at this;simp at this
 have hmm:=List.mem_of_find?_eq_some em
 have hmc:co ps m=some c:=by
  have:=List.find?_some em
  rw[<-hc];exact jn this
 refine⟨m,em,hmm,hmc,?_⟩;have s1:aJ mV (ak (aa 0) (ak (aa 1) au)) [some (.lst (ms.map d3)),some (.ob p),none] O=.ok (oD (lc ps ms)) O:=(cL (maS rfl (ma1 rfl))).trans (KH hp hm hl)
 have c1:cz (mgN 0) (aQ (aj gEq (aJ j8 (ak (aa 0) (ak (aa 1) au))) (aa 2))) (aa 0) (ms.map d3) [none,some (.ob p),some (oD (lc ps ms))] O []=.ok ((ms.filter λm=>decide (co ps m=lc ps ms)).map d3) O:=by
  rw[K1 (λρ=>∃a,ρ=[a,some (.ob p),some (oD (lc ps ms))]) (λm=>decide (co ps m=lc ps ms)) d3 ms _ _ _ ⟨none,rfl⟩ (by
   rintro m' hm' ρ ⟨a,rfl⟩
   exact⟨_,rfl,⟨_,rfl⟩,fX (aU ((cL (maS rfl (ma1 rfl))).trans (Kz hp (hm m' hm'))) (y:=oD (lc ps ms)) rfl (by
    rw[show aZ O (oD (co ps m'))=oD (co ps m') by cases co ps m'<;>rfl,show aZ O (oD (lc ps ms))=oD (lc ps ms) by cases lc ps ms<;>rfl,Zg])),rfl⟩)]
  rw[zK]
 have s2:cI (cB (aa 0)) 1 [1,2] (mgN 0) (aQ (aj gEq (aJ j8 (ak (aa 0) (ak (aa 1) au))) (aa 2))) (aa 0) [some (.lst (ms.map d3)),some (.ob p),some (oD (lc ps ms))] O=.ok (.lst ((ms.filter λm=>decide (co ps m=lc ps ms)).map d3)) O:=jq (iB rfl) (by rw[zd];omega) rfl c1
 have s3:aj gIx (cI (cB (aa 0)) 1 [1,2] (mgN 0) (aQ (aj gEq (aJ j8 (ak (aa 0) (ak (aa 1) au))) (aa 2))) (aa 0)) (mC (.int 0)) [some (.lst (ms.map d3)),some (.ob p),some (oD (lc ps ms))] O=.ok (d3 m) O:=aU s2 m_c (by
  rw[mL,mK,mR]
  exact(mU (j:=0)).trans (K5 _ d3 (λ_=>true) ms m em))
 show bx (uU [some (.lst (ms.map d3)),some (.ob p),none] O)=_;unfold uU;rw[sq (bQ s1),gR];exact congrArg (λr=>bx (iZ r)) s3
end
def Wy(ps:Tb)(mv:Nd->List M3)(fin:Nd->Bool):Nd->List M3->Prop
 |n,[]=>fin n=true
 |n,m::ms=>fin n=false/\(mv n).find? (λm=>decide (co ps m=lc ps (mv n)))=some m/\Wy ps mv fin m.other ms
def B_y:MS:=(aB (aC 5 (aJ rz (ak (cR "Change" "moves_from" jK (mG (aa 0)) (ak (aa 2) au)) (ak (aa 1) au))))
  (aB (cQ 4 (aj gIx (aa 5) (mC (.int 1))))
  (aC 2 (aj gIx (aa 5) (mC (.int 2))))))
section
variable {t:Nat}{fs:List (Str×D)}{N:Nat}{nodes:Nat->List Nd}{mv:Nd->List M3}{fin:Nd->Bool}{p q:Nat}
theorem Zi(T:Trl t fs N nodes mv fin){ps:Tb}(hP:Pri N nodes mv fin 0 ps){O:ao}(ht:O[t]?=some (.ins "Change" fs))(hp:O[p]?=some (.dt (tab ps)))(a3:Option D):∀(k a:Nat) (n:Nd) (c:Int) (nm:List D) (f:Nat) (o5:Option D),a+k=N->n∈nodes a->lk ps n=some (some c)->k<f->nm.length+k<1000000 ->
  ∃ms n' o5',fV (fM (bZ (cR "Change" "is_end" jL (mG (aa 0)) (ak (aa 2) au)))) B_y f [some (.ob t),some (.ob p),some (nN n),a3,some (.lst nm),o5] O=.nx [some (.ob t),some (.ob p),some (nN n'),a3,some (.lst (nm++ms.map λm=>.str m.name)),o5'] O/\Wy ps mv fin n ms/\ms.length<=k:=by
 intro k
 induction k using Nat.strongRecOn with
 | _ k ih =>
  intro a n c nm f o5 hak hn hc hf hl;obtain⟨f',rfl⟩:∃f',f=f'+1:=⟨f - 1,by omega⟩
  have te:fM (bZ (cR "Change" "is_end" jL (mG (aa 0)) (ak (aa 2) au))) [some (.ob t),some (.ob p),some (nN n),a3,some (.lst nm),o5] O=.ok (!fin n) O:=by
   rw[uA,qM,(nj rfl ht T.u3 (ma1 rfl)).trans (T.ie O a n ht (by omega) hn),aO,jJ,qN,qL,aO]
  cases hfin:fin n with
  |true =>
   rw[hfin] at te;exact⟨[],n,o5,by rw[Do te];simp,hfin,Nat.zero_le _⟩
  |false =>
   rw[hfin] at te
   have hL:lc ps (mv n)=some c:=by
    have:=hP a (Nat.zero_le _) (by omega) n hn
    rw[hc] at this;have h2:some c=fnl fin (λn=>lc ps (mv n)) n:=zx this;unfold fnl at h2;rw[hfin,if_neg zk] at h2;exact h2.symm
   have hm:∀m∈mv n,(lk ps m.other).isSome=true:=λm hm=>by
    obtain⟨b,b1,b2,b3⟩:=T.fw a n (by omega) hn m hm;rw[hP b (Nat.zero_le _) b2 _ b3];rfl
   obtain⟨m,e1,hmm,hmc,e2⟩:=Zh hp hm (T.ml n) hL;obtain⟨b,b1,b2,b3⟩:=T.fw a n (by omega) hn m hmm
   obtain⟨c',hc'⟩:∃c',lk ps m.other=some (some c'):=by
    unfold co at hmc;split at hmc
    ·rename_i c' e;exact⟨c',e⟩
    ·cases hmc
   have s1:aJ rz (ak (cR "Change" "moves_from" jK (mG (aa 0)) (ak (aa 2) au)) (ak (aa 1) au)) [some (.ob t),some (.ob p),some (nN n),a3,some (.lst nm),o5] O=.ok (d3 m) O:=(cL (maS ((nj rfl ht T.u2 (ma1 rfl)).trans (T.mf O a n ht (by omega) hn)) (ma1 rfl))).trans e2
   have eb:B_y [some (.ob t),some (.ob p),some (nN n),a3,some (.lst nm),o5] O=.nx [some (.ob t),some (.ob p),some (nN m.other),a3,some (.lst (nm++[.str m.name])),some (d3 m)] O:=by
    unfold B_y;rw[sq (bQ s1)];show aB _ _ [some (.ob t),some (.ob p),some (nN n),a3,some (.lst nm),some (d3 m)] O=_;rw[sq (kh (d:=.str m.name) (ds:=nm) (aU rfl rfl rfl) rfl (by omega))];rfl
   obtain⟨ms,n',o5',e3,w3,l3⟩:=ih (N - b) (by omega) b m.other c' (nm++[.str m.name]) f' (some (d3 m)) (by omega) b3 hc' (by omega) (by rw[ze,zY];omega);refine⟨m::ms,n',o5',?_,⟨hfin,e1,w3⟩,by rw[zE];omega⟩;rw[vX te eb,e3,zJ];rfl
theorem Zj(T:Trl t fs N nodes mv fin)(hne:∀(a:Nat) (n:Nd),a<=N->n∈nodes a->fin n=false->mv n≠[]){ps:Tb}(hP:Pri N nodes mv fin 0 ps):∀(k a:Nat) (n:Nd),a+k=N->n∈nodes a->∃c,lk ps n=some (some c):=by
 intro k
 induction k using Nat.strongRecOn with
 | _ k ih =>
  intro a n hak hn;have h1:=hP a (Nat.zero_le _) (by omega) n hn
  cases hfin:fin n with
  |true =>
   refine⟨0,?_⟩;rw[h1];unfold fnl;rw[hfin,if_pos rfl]
  |false =>
   have h2:lk ps n=some (lc ps (mv n)):=by
    rw[h1];unfold fnl;rw[hfin,if_neg zk]
   obtain⟨m,hm⟩:=List.exists_mem_of_ne_nil _ (hne a n (by omega) hn hfin);obtain⟨b,b1,b2,b3⟩:=T.fw a n (by omega) hn m hm;obtain⟨c,hc⟩:=ih (N - b) (by omega) b m.other (by omega) b3
   have hco:co ps m=some (m.cost+c):=by
    unfold co;rw[hc]
   obtain⟨c',hc'⟩:=Zf (l:=(mv n).filterMap (co ps)) (λz=>by
    have:=List.mem_filterMap.mpr ⟨m,hm,hco⟩
    rw[z] at this
    cases this)
   exact⟨c',by rw[h2];exact congrArg some hc'⟩
theorem K6(T:Trl t fs N nodes mv fin)(hne:∀(a:Nat) (n:Nd),a<=N->n∈nodes a->fin n=false->mv n≠[])(hF:N<50){O:ao}(ht:O[t]?=some (.ins "Change" fs)):
  ∃O' ps c ms,uW [.ob t] O=.ok (.tup [.int c,.lst (ms.map λm=>.str m.name)]) O'/\(∀(j:Nat) (x:Ob),O[j]?=some x->O'[j]?=some x)/\Pri N nodes mv fin 0 ps/\lk ps (0,0)=some (some c)/\Wy ps mv fin (0,0) ms:=by
 obtain⟨O',ps,e1,g1,g2,hP⟩:=Ze T ht;obtain⟨c,hc⟩:=Zj T hne hP N 0 (0,0) (zC _) T.f0;have ht':=g2 t _ ht;obtain⟨ms,n',o5,e2,w2,l2⟩:=Zi T hP ht' g1 (some (.int c)) N 0 (0,0) c [] 50 none (zC _) T.f0 hc (by omega) (by simp;omega);refine⟨O',ps,c,ms,?_,g2,hP,hc,w2⟩;have s1:aJ uR (ak (aa 0) au) [some (.ob t),none,none,none,none,none] O=.ok (.ob O.length) O':=(cL (ma1 rfl)).trans e1;have s2:cR "Change" "first_node" rE (mG (aa 0)) au [some (.ob t),some (.ob O.length),none,none,none,none] O'=.ok (nN (0,0)) O':=(nj rfl ht' T.u5 rfl).trans (T.fi O' ht');have s3:dI (aa 1) (aa 2) [some (.ob t),some (.ob O.length),some (nN (0,0)),none,none,none] O'=.ok (.int c) O':=Dn rfl g1 rfl hc
 unfold B_y at e2;rw[zK] at e2;show bx (uV [some (.ob t),none,none,none,none,none] O)=_;unfold uV;rw[sq (jN s1)];show bx (aB _ _ [some (.ob t),some (.ob O.length),none,none,none,none] O')=_;rw[sq (bQ s2)];show bx (aB _ _ [some (.ob t),some (.ob O.length),some (nN (0,0)),none,none,none] O')=_;rw[sq (bQ s3)];show bx (aB _ _ [some (.ob t),some (.ob O.length),some (nN (0,0)),some (.int c),none,none] O')=_;rw[sq (show bz (aQ (jA (aa 3))) (aW (mC .non)) bI [some (.ob t),some (.ob O.length),some (nN (0,0)),some (.int c),none,none] O'=.nx [some (.ob t),some (.ob O.length),some (nN (0,0)),some (.int c),none,none] O' from rfl)]
 rw[sq (bQ (d:=.lst []) (rY rfl (Nat.zero_le _)))];show bx (aB (lu 50 _ _) _ [some (.ob t),some (.ob O.length),some (nN (0,0)),some (.int c),some (.lst []),none] O')=_;unfold lu;rw[sq e2];rfl
end
theorem Zk{a b:C}(h:dz (dC a) (dC b)=true):a=b:=by
 have h':((S a.1 == S b.1)&&((S a.2.1 == S b.2.1)&&((S a.2.2 == S b.2.2)&&true)))=true:=h;simp only[zn,Bool.and_true,beq_iff_eq] at h';obtain⟨h1,h2,h3⟩:=h';obtain⟨a1,a2,a3⟩:=a;obtain⟨b1,b2,b3⟩:=b;have e1:a1=b1:=tO h1;have e2:a2=b2:=tO h2;have e3:a3=b3:=tO h3;rw[e1,e2,e3]
theorem vY:∀{a b:Row},dz (dRw a) (dRw b)=true->a=b
 | [],[],_=>rfl
 | [],y::b,h=>by cases h
 |x::a,[],h=>by cases h
 |x::a,y::b,h=>by
  have h':(dz (dC x) (dC y)&&dz (dRw a) (dRw b))=true:=h;rw[zn] at h';rw[Zk h'.1,vY h'.2]
def sJ:List Nat:=[112,97,115,115]
def ju:List Nat:=[98,101,103,105,110]
def kOn:List Nat:=[111,110]
def ndC(a:Nat):List Nd:=[((a:Int),0),((a:Int),1)]
def mvC(r:Row)(bs:List Row)(n:Nd):List M3:=match(sps 0 bs)[n.1.toNat]? with
 |none=>[]
 |some p=>(if alk r bs.flatten p=true then[⟨0,sJ,(n.1+1,0)⟩] else[])++[if n.2=0 then⟨4+(p.2:Int),ju,(n.1+1,1)⟩ else⟨(p.2:Int),kOn,(n.1+1,1)⟩]
def fnC(bs:List Row)(n:Nd):Bool:=decide (n.1=(bs.length:Int))
theorem pG{a:Nat}{n:Nd}(h:n∈ndC a):∃s:Nat,n=((a:Int),(s:Int))/\(s=0\/s=1):=by
 unfold ndC at h
 rcases zm.mp h with rfl | h
 ·exact⟨0,rfl,.inl rfl⟩
 ·rw[zp.mp h];exact⟨1,rfl,.inr rfl⟩
theorem Zm(a:Nat){s:Int}(h:s=0\/s=1):((a:Int),s)∈ndC a:=by
 unfold ndC
 rcases h with rfl | rfl<;>simp
theorem Zn(r:Row)(bs:List Row)(a s:Nat):(mvC r bs ((a:Int),(s:Int))).map d3=mvs r bs a s:=by
 unfold mvC mvs;rw[show(((a:Int),(s:Int)):Nd).1.toNat=a from Int.toNat_natCast a]
 cases(sps 0 bs)[a]? with
 |none=>rfl
 |some p =>
  dsimp only;rw[zD];unfold mvL mvW;congr 1
  ·split<;>rfl
  ·by_cases hs:s=0
   ·subst hs;rfl
   ·rw[if_neg hs,if_neg (by omega)];rfl
theorem Zo{bs:List Row}{a:Nat}(h:bs.length<=a):(sps 0 bs)[a]?=none:=zV (by rw[kj];exact h)
theorem Zq{bs:List Row}{a:Nat}(h:a<bs.length):∃p,(sps 0 bs)[a]?=some p:=⟨_,zg (by rw[kj];exact h)⟩
theorem K7{r:Row}{bs:List Row}{a s:Nat}{m:M3}(h:m∈mvC r bs ((a:Int),(s:Int))):a<bs.length/\∃p,(sps 0 bs)[a]?=some p/\((m.name=sJ/\alk r bs.flatten p=true/\m.other=((a:Int)+1,0))\/(m.name=ju/\s=0/\m.other=((a:Int)+1,1))\/(m.name=kOn/\s≠0/\m.other=((a:Int)+1,1))):=by
 unfold mvC at h;rw[show(((a:Int),(s:Int)):Nd).1.toNat=a from Int.toNat_natCast a] at h
 cases hp:(sps 0 bs)[a]? with
 |none=>rw[hp] at h;cases h
 |some p =>
  rw[hp] at h;have hl:=(zh.mp hp).1;rw[kj] at hl;refine⟨hl,p,rfl,?_⟩;dsimp only at h
  rcases zF.mp h with h | h
  ·split at h
   ·rename_i ha;rw[zp.mp h];exact .inl ⟨rfl,ha,rfl⟩
   ·cases h
  ·rw[zp.mp h]
   by_cases hs:s=0
   ·subst hs;exact .inr (.inl ⟨rfl,rfl,rfl⟩)
   ·rw[if_neg (by omega)];exact .inr (.inr ⟨rfl,hs,rfl⟩)
theorem trC{r:Row}{bs:List Row}(hbs:∀b∈bs,Bl b)(hl:bs.flatten.length<=40)(hr:ROk r)(hq:ROk bs.flatten)(t:Nat):Trl t (fs2 r bs) bs.length ndC (mvC r bs) (fnC bs):=by
 have tr:∀O:ao,O[t]?=some (.ins "Change" (fs2 r bs))->Tr O t r bs:=λO h=>⟨h,hbs,by omega,hr,hq⟩
 have bl:=vV hbs;refine⟨λO a h ha=>YS a,λO a n h ha hn=>?_,λO a n h ha hn=>?_,λO h=>YT (tr O h),λO h=>YQ,by simp[ndC],λa=>by simp[ndC],λa=>by simp[ndC],λa n ha hn m hm=>?_,λa b n h1 h2=>?_,λn=>?_,λn hn=>?_,rfl,rfl,rfl,rfl,rfl,by omega⟩
 ·obtain⟨s,rfl,hs⟩:=pG hn;rw[Zn];exact YX (tr O h) a s ha
 ·obtain⟨s,rfl,hs⟩:=pG hn;exact YW (tr O h) a s
 ·obtain⟨s,rfl,hs⟩:=pG hn;obtain⟨h1,p,_,h2⟩:=K7 hm;refine⟨a+1,by omega,h1,?_⟩
  rcases h2 with⟨_,_,h2⟩ | ⟨_,_,h2⟩ | ⟨_,_,h2⟩
  all_goals rw[h2];exact Zm (a+1) (by simp)
 ·obtain⟨s,rfl,hs⟩:=pG h1;obtain⟨s',e,hs'⟩:=pG h2
  have:=congrArg Prod.fst e
  have z:(a:Int)=(b:Int):=this;omega
 ·unfold mvC
  split
  ·simp
  ·rw[ze]
   split<;>simp
 ·unfold fnC at hn;have hn':=jn hn;unfold mvC;rw[hn',Int.toNat_natCast,Zo (zb _)]
theorem neC(r:Row)(bs:List Row):∀(a:Nat) (n:Nd),a<=bs.length->n∈ndC a->fnC bs n=false->mvC r bs n≠[]:=λa n ha hn hf=>by
 obtain⟨s,rfl,hs⟩:=pG hn;have hf':=of_decide_eq_false hf
 obtain⟨p,hp⟩:=Zq (bs:=bs) (a:=a) (by
  have:¬((a:Int)=(bs.length:Int)):=hf'
  omega)
 unfold mvC;rw[show(((a:Int),(s:Int)):Nd).1.toNat=a from Int.toNat_natCast a,hp];simp
section
variable {N:Nat}{nodes:Nat->List Nd}{mv:Nd->List M3}{fin:Nd->Bool}
theorem Zr(fw:∀(a:Nat) (n:Nd),a<=N->n∈nodes a->∀m∈mv n,∃b,a<b/\b<=N/\m.other∈nodes b){ps ps':Tb}(h:Pri N nodes mv fin 0 ps)(h':Pri N nodes mv fin 0 ps'):∀(k a:Nat) (n:Nd),a+k=N->n∈nodes a->lk ps' n=lk ps n:=by
 intro k
 induction k using Nat.strongRecOn with
 | _ k ih =>
  intro a n hak hn;rw[h a (Nat.zero_le _) (by omega) n hn,h' a (Nat.zero_le _) (by omega) n hn];show some (if fin n=true then some 0 else lc ps' (mv n))=some (if fin n=true then some 0 else lc ps (mv n))
  rw[vW λm hm=>by
   obtain⟨b,b1,b2,b3⟩:=fw a n (by omega) hn m hm
   exact ih (N - b) (by omega) b m.other (by omega) b3]
theorem K8{α:Type}{f g:α->Bool}:∀{l:List α},(∀x∈l,f x=g x)->l.find? f=l.find? g
 | [],_=>rfl
 |x::l,h=>by
  rw[List.find?_cons,List.find?_cons,h x zr,K8 λy hy=>h y (zw _ hy)]
theorem K9(fw:∀(a:Nat) (n:Nd),a<=N->n∈nodes a->∀m∈mv n,∃b,a<b/\b<=N/\m.other∈nodes b){ps ps':Tb}(h:Pri N nodes mv fin 0 ps)(h':Pri N nodes mv fin 0 ps'):∀(ms ms':List M3) (a:Nat) (n:Nd),a<=N->n∈nodes a->Wy ps mv fin n ms->Wy ps' mv fin n ms'->ms'=ms
 | [],[],_,_,_,_,_,_=>rfl
 | [],m::ms,_,n,_,_,w,w'=>by
  have w1:fin n=true:=w;have z:=w'.1;rw[w1] at z;cases z
 |m::ms,[],_,n,_,_,w,w'=>by
  have w1:fin n=true:=w';have z:=w.1;rw[w1] at z;cases z
 |m::ms,m'::ms',a,n,ha,hn,w,w'=>by
  have el:∀x∈mv n,lk ps' x.other=lk ps x.other:=λx hx=>by
   obtain⟨b,b1,b2,b3⟩:=fw a n ha hn x hx;exact Zr fw h h' (N - b) b x.other (by omega) b3
  have e:=w'.2.1
  rw[K8 (g:=λm=>decide (co ps m=lc ps (mv n))) λx hx=>by
   rw[vW el];unfold co
   rw[el x hx],w.2.1] at e
  cases e;obtain⟨b,b1,b2,b3⟩:=fw a n ha hn m (List.mem_of_find?_eq_some w.2.1);rw[K9 fw h h' ms ms' b m.other b2 b3 w.2.2 w'.2.2]
end
abbrev Sg:=Nat×Row
def exl(V:List Sg)(cs:Row):List Sg:=match V.getLast? with
 |some x=>V.dropLast++[(x.1,x.2++cs)]
 |none=>V
def stV(q:Row)(V:List Sg)(nm:List Nat)(p:Nat×Nat):List Sg:=if nm=sJ then V else if nm=ju then V++[(p.1,seg q p)] else exl V (seg q p)
def rnV(q:Row):List Sg->List (List Nat)->List (Nat×Nat)->List Sg
 |V,nm::ns,p::ps=>rnV q (stV q V nm p) ns ps
 |V,_,_=>V
structure StV(r q:Row)(pos s:Nat)(V:List Sg):Prop where
 inn:∀x∈V,x.1+x.2.length<=pos/\x.2=seg q (x.1,x.2.length)
 cov:∀i,i<pos->(∃x∈V,x.1<=i/\i<x.1+x.2.length)\/r[i]?=q[i]?
 on:s=1->∃V' x,V=V'++[x]/\x.1+x.2.length=pos
theorem Dq{q:Row}{a b:Nat}(h:a+b<=q.length):(seg q (a,b)).length=b:=by
 show((q.drop a).take b).length=b;rw[List.length_take,List.length_drop];omega
theorem Dr{q:Row}{a b i:Nat}(h1:a<=i)(h2:i<a+b):(seg q (a,b))[i - a]?=q[i]?:=by
 show((q.drop a).take b)[i - a]?=_;rw[List.getElem?_take,if_pos (by omega),List.getElem?_drop];congr 1;omega
theorem Zt(q:Row)(a b c:Nat):seg q (a,b)++seg q (a+b,c)=seg q (a,b+c):=by
 show(q.drop a).take b++(q.drop (a+b)).take c=(q.drop a).take (b+c);rw[List.take_add,List.drop_drop]
theorem Ds(V:List Sg)(x:Sg)(cs:Row):exl (V++[x]) cs=V++[(x.1,x.2++cs)]:=by
 unfold exl;simp
section
variable {r q:Row}{pos len s:Nat}{V:List Sg}
theorem StV.pass(h:StV r q pos s V)(ha:alk r q (pos,len)=true):StV r q (pos+len) 0 V:=by
 have e:=vY ha;refine⟨λx hx=>⟨zG (h.inn x hx).1 (zX _ _),(h.inn x hx).2⟩,λi hi=>?_,λz=>nomatch z⟩
 by_cases hp:i<pos
 ·exact h.cov i hp
 ·refine .inr ?_;rw[<-Dr (q:=r) (a:=pos) (b:=len) (by omega) hi,e,Dr (by omega) hi]
theorem StV.begn(h:StV r q pos s V)(hl:pos+len<=q.length):StV r q (pos+len) 1 (V++[(pos,seg q (pos,len))]):=by
 have sl:=Dq hl;refine⟨λx hx=>?_,λi hi=>?_,λ_=>⟨V,_,rfl,by rw[sl]⟩⟩
 ·rcases zF.mp hx with hx | hx
  ·exact⟨zG (h.inn x hx).1 (zX _ _),(h.inn x hx).2⟩
  ·rw[zp.mp hx];dsimp only;rw[sl];exact⟨zb _,rfl⟩
 ·by_cases hp:i<pos
  ·rcases h.cov i hp with⟨x,hx,hc⟩ | hc
   ·exact .inl ⟨x,jf _ hx,hc⟩
   ·exact .inr hc
  ·exact .inl ⟨_,zM _ (zp.mpr rfl),by dsimp only;omega,by dsimp only;rw[sl];exact hi⟩
theorem StV.onn(h:StV r q pos 1 V)(hl:pos+len<=q.length):StV r q (pos+len) 1 (exl V (seg q (pos,len)))/\∃V' x,V=V'++[x]:=by
 obtain⟨V',x,rfl,hx⟩:=h.on rfl;refine⟨?_,V',x,rfl⟩;rw[Ds];have sl:=Dq hl;have hx2:=(h.inn x (zM _ (zp.mpr rfl))).2
 have nl:(x.2++seg q (pos,len)).length=x.2.length+len:=by rw[ze,sl]
 refine⟨λy hy=>?_,λi hi=>?_,λ_=>⟨V',_,rfl,by dsimp only;rw[nl];omega⟩⟩
 ·rcases zF.mp hy with hy | hy
  ·exact⟨zG (h.inn y (jf _ hy)).1 (zX _ _),(h.inn y (jf _ hy)).2⟩
  ·rw[zp.mp hy];dsimp only;rw[nl];refine⟨by omega,?_⟩;rw[<-Zt,hx,<-hx2]
 ·by_cases hp:i<pos
  ·rcases h.cov i hp with⟨y,hy,hc⟩ | hc
   ·rcases zF.mp hy with hy | hy
    ·exact .inl ⟨y,jf _ hy,hc⟩
    ·rw[zp.mp hy] at hc;exact .inl ⟨_,zM _ (zp.mpr rfl),hc.1,by dsimp only;rw[nl];omega⟩
   ·exact .inr hc
  ·exact .inl ⟨_,zM _ (zp.mpr rfl),by dsimp only;omega,by dsimp only;rw[nl];omega⟩
end
abbrev Wr:=Nat×Nat×Row
def dH(x:Wr)(n:Nat):D:=.tup [.int (x.1:Int),.int (x.2.1:Int),.ob n]
def wO(x:Wr):Ob:=bu x.2.2
def wr(pl:Nat)(x:Sg):Wr:=(pl,x.1,x.2)
def HW(O:ao):List Wr->List Nat->Prop
 | [],[]=>True
 |x::W,n::ns=>O[n]?=some (wO x)/\HW O W ns
 | _,_=>False
def hT:List Wr->List Nat->List D
 |x::W,n::ns=>dH x n::hT W ns
 | _,_=>[]
theorem pH{O O':ao}:∀{W:List Wr}{ns:List Nat},(∀n∈ns,O'[n]?=O[n]?)->HW O W ns->HW O' W ns
 | [],[],_,_=>trivial
 |x::W,n::ns,k,h=>⟨(k n zr).trans h.1,pH (λm hm=>k m (zw _ hm)) h.2⟩
 | [],_::_,_,h=>h.elim
 | _::_,[],_,h=>h.elim
theorem vZ{O:ao}{W':List Wr}{ns':List Nat}(h':HW O W' ns'):∀{W:List Wr}{ns:List Nat},HW O W ns->HW O (W++W') (ns++ns')/\hT (W++W') (ns++ns')=hT W ns++hT W' ns'
 | [],[],_=>⟨h',rfl⟩
 |x::W,n::ns,h=>by
  obtain⟨a,b⟩:=vZ h' h.2;exact⟨⟨h.1,a⟩,congrArg (dH x n :: ·) b⟩
 | [],_::_,h=>h.elim
 | _::_,[],h=>h.elim
theorem La{O:ao}:∀{W:List Wr}{x:Wr}{ns:List Nat},HW O (W++[x]) ns->∃ms n,ns=ms++[n]/\HW O W ms/\O[n]?=some (wO x)/\hT (W++[x]) ns=hT W ms++[dH x n]
 | [],x,[n],h=>⟨[],n,rfl,trivial,h.1,rfl⟩
 | [],x,n::m::ns,h=>h.2.elim
 | [],x,[],h=>h.elim
 |y::W,x,n::ns,h=>by
  obtain⟨ms,k,rfl,h1,h2,h3⟩:=La h.2;exact⟨n::ms,k,rfl,⟨h.1,h1⟩,h2,congrArg (dH y n :: ·) h3⟩
 |y::W,x,[],h=>h.elim
theorem km{O:ao}:∀{W:List Wr}{ns:List Nat},HW O W ns->(∀n∈ns,n<O.length)/\ns.length=W.length/\(hT W ns).length=W.length
 | [],[],_=>⟨λn hn=>(nomatch hn),rfl,rfl⟩
 |x::W,n::ns,h=>by
  obtain⟨a,b,c⟩:=km h.2;refine⟨λm hm=>?_,by simp[b],by simp[hT,c]⟩
  rcases zm.mp hm with rfl | hm
  ·exact(zh.mp h.1).1
  ·exact a m hm
 | [],_::_,h=>h.elim
 | _::_,[],h=>h.elim
def kE:MS:=(aB (bz (aQ (aj gEq (aa 5) (mC (.str [98,101,103,105,110])))) (cQ 4 (bU (ak (mG (aa 0)) (ak (aj gIx (aa 6) (mC (.int 0))) (ak (mMl (bK au)) au))))) bI)
  (bz (aQ (aj gNe (aa 5) (mC (.str [112,97,115,115])))) (oG (aj gIx (aj gIx (aa 4) (mUn jV (mC (.int 1)))) (mC (.int 2))) (mSl (aa 2) (moS (aj gIx (aa 6) (mC (.int 0)))) (moS (aj gIx (aa 6) (mC (.int 1)))))) bI))
def eR(pl:Nat)(d e nm:D)(T:List D)(a5 a6:Option D):az:=[some (.int (pl:Int)),some d,some e,some nm,some (.lst T),a5,a6]
def Agr(O O':ao):Prop:=∀j,j<O.length->O'[j]?=O[j]?
theorem Is.agr{O O':ao}{d:D}{r:Row}(h:Is O d r)(a:Agr O O'):Is O' d r:=by
 rcases h with h | ⟨n,h1,h2⟩
 ·exact .inl h
 ·exact .inr ⟨n,h1,(a n (zh.mp h2).1).trans h2⟩
theorem Zu(n:Nat):ixN (n+1) (-1)=some n:=by
 unfold ixN;rw[if_neg (by decide),if_pos (by omega)];congr 1;omega
theorem Zv(T:List D)(d:D):gIx (.lst (T++[d])) (.int (-1))=some d:=by
 rw[mR];unfold atI;rw[show(T++[d]).length=T.length+1 by simp,Zu];simp
section
variable {pl:Nat}{d e nm:D}{q:Row}{O:ao}
theorem Lb{T:List D}{x:Wr}{n:Nat}{p:Nat×Nat}{k:List Nat}(he:Is O e q)(hn:O[n]?=some (wO x))(hl:x.2.2.length+q.length<=100000):
  oG (aj gIx (aj gIx (aa 4) (mUn jV (mC (.int 1)))) (mC (.int 2))) (mSl (aa 2) (moS (aj gIx (aa 6) (mC (.int 0)))) (moS (aj gIx (aa 6) (mC (.int 1))))) (eR pl d e nm (T++[dH x n]) (some (.str k)) (some (dZ p))) O=.nx (eR pl d e nm (T++[dH x n]) (some (.str k)) (some (dZ p))) (O.set n (bu (x.2.2++seg q p))):=by
 have e1:aj gIx (aj gIx (aa 4) (mUn jV (mC (.int 1)))) (mC (.int 2)) (eR pl d e nm (T++[dH x n]) (some (.str k)) (some (dZ p))) O=.ok (.ob n) O:=aU (x:=dH x n) (aU (x:=.lst (T++[dH x n])) (y:=.int (-1)) rfl rfl (Zv T _)) m_c rfl;have e2:mSl (aa 2) (moS (aj gIx (aa 6) (mC (.int 0)))) (moS (aj gIx (aa 6) (mC (.int 1)))) (eR pl d e nm (T++[dH x n]) (some (.str k)) (some (dZ p))) O=.ok (dRw (seg q p)) O:=slD (d:=e) rfl he.de (aU (x:=dZ p) rfl rfl rfl) (aU (x:=dZ p) rfl rfl rfl)
 have sl:(seg q p).length<=q.length:=by
  unfold seg;rw[List.length_take,List.length_drop];omega
 have hn':O[n]?=some (.ml (x.2.2.map dC)):=hn;unfold oG;rw[e1];dsimp only;rw[hn'];dsimp only;rw[e2];dsimp only;rw[hn'];show(if(x.2.2.map dC).length+((seg q p).map dC).length<=1000000 then _ else _)=_;rw[if_pos (by rw[zd,zd];omega),<-zD];rfl
theorem Zw{T:List D}{p:Nat×Nat}:kE (eR pl d e nm T (some (.str sJ)) (some (dZ p))) O=.nx (eR pl d e nm T (some (.str sJ)) (some (dZ p))) O:=rfl
theorem Zx{T:List D}{x:Wr}{n:Nat}{p:Nat×Nat}(he:Is O e q)(hn:O[n]?=some (wO x))(hl:x.2.2.length+q.length<=100000):kE (eR pl d e nm (T++[dH x n]) (some (.str kOn)) (some (dZ p))) O=.nx (eR pl d e nm (T++[dH x n]) (some (.str kOn)) (some (dZ p))) (O.set n (bu (x.2.2++seg q p))):=Lb he hn hl
theorem Zy{T:List D}{p:Nat×Nat}(he:Is O e q)(hl:q.length<=1000)(hT:T.length<100000):kE (eR pl d e nm T (some (.str ju)) (some (dZ p))) O=.nx (eR pl d e nm (T++[dH (pl,p.1,seg q p) O.length]) (some (.str ju)) (some (dZ p))) (O++[bu (seg q p)]):=by
 have e1:bU (ak (mG (aa 0)) (ak (aj gIx (aa 6) (mC (.int 0))) (ak (mMl (bK au)) au))) (eR pl d e nm T (some (.str ju)) (some (dZ p))) O=.ok (dH (pl,p.1,[]) O.length) (O++[Ob.ml []]):=rfl
 have s1:cQ 4 (bU (ak (mG (aa 0)) (ak (aj gIx (aa 6) (mC (.int 0))) (ak (mMl (bK au)) au)))) (eR pl d e nm T (some (.str ju)) (some (dZ p))) O=.nx (eR pl d e nm (T++[dH (pl,p.1,[]) O.length]) (some (.str ju)) (some (dZ p))) (O++[Ob.ml []]):=by
  rw[yJ,e1,yK (ds:=T) rfl (by omega)];rfl
 have x:=Lb (pl:=pl) (d:=d) (nm:=nm) (O:=O++[Ob.ml []]) (T:=T) (x:=(pl,p.1,[])) (n:=O.length) (p:=p) (k:=ju) (he.app _) (by simp[wO,bu]) (by simp;omega);have t1:aQ (aj gEq (aa 5) (mC (.str [98,101,103,105,110]))) (eR pl d e nm T (some (.str ju)) (some (dZ p))) O=.ok true O:=rfl;have t2:aQ (aj gNe (aa 5) (mC (.str [112,97,115,115]))) (eR pl d e nm (T++[dH (pl,p.1,[]) O.length]) (some (.str ju)) (some (dZ p))) (O++[Ob.ml []])=.ok true (O++[Ob.ml []]):=rfl;unfold kE;rw[bD,gn t1,s1,bB,gn t2,x,zK,List.set_append_right _ _ (zb _),Nat.sub_self];rfl
end
theorem Ld:∀(k:Nat) (done:List Row) (b:Row) (rest:List Row),(sps k (done++b::rest))[done.length]?=some (k+done.flatten.length,b.length)
 |k,[],b,rest=>rfl
 |k,a::done,b,rest=>by
  show(sps (k+a.length) (done++b::rest))[done.length]?=_;rw[Ld,List.flatten_cons,ze,Nat.add_assoc]
def gz:MG:=fO 2 (cP (mgN 5) (cP (mgN 6) fU))
def RwO(pl:Nat)(d e nm:D)(r q:Row)(O0:ao)(L:List D)(ρ:az)(O:ao)(V:List Sg):Prop:=∃O' ns' a5' a6',cY gz kE L ρ O=.nx (eR pl d e nm (hT (V.map (wr pl)) ns') a5' a6') O'/\(∃s',StV r q q.length s' V)/\HW O' (V.map (wr pl)) ns'/\ns'.Nodup/\(∀n∈ns',O0.length<=n)/\Agr O0 O'/\O0.length<=O'.length
theorem Le{pl:Nat}{d e nm:D}{r:Row}{bs:List Row}(hbs:bs.length<=100)(hq:bs.flatten.length<=100){O0:ao}(he:Is O0 e bs.flatten){ps:Tb}:∀(rest done:List Row) (s:Nat) (ms:List M3) (O:ao) (V:List Sg) (ns:List Nat) (a5 a6:Option D),bs=done++rest->(s=0\/s=1)->Wy ps (mvC r bs) (fnC bs) ((done.length:Int),(s:Int)) ms->StV r bs.flatten done.flatten.length s V->HW O (V.map (wr pl)) ns->ns.Nodup->(∀n∈ns,O0.length<=n)->Agr O0 O->O0.length<=O.length->V.length<=done.length ->
  RwO pl d e nm r bs.flatten O0 (di (ms.map λm=>.str m.name) ((sps done.flatten.length rest).map dZ)) (eR pl d e nm (hT (V.map (wr pl)) ns) a5 a6) O (rnV bs.flatten V (ms.map (·.name)) (sps done.flatten.length rest))
 | [],done,s,ms,O,V,ns,a5,a6,hb,hs,w,st,hw,hnd,hlb,ag,hO,hV=>by
  rw[zS] at hb;subst hb
  have e0:di (ms.map λm=>D.str m.name) ((sps bs.flatten.length []).map dZ)=[]:=by cases ms<;>rfl
  have e1:rnV bs.flatten V (ms.map (·.name)) (sps bs.flatten.length [])=V:=by cases ms<;>rfl
  rw[e0,e1];exact⟨O,ns,a5,a6,rfl,⟨s,st⟩,hw,hnd,hlb,ag,hO⟩
 |b::rest,done,s,ms,O,V,ns,a5,a6,hb,hs,w,st,hw,hnd,hlb,ag,hO,hV=>by
  have hp:(sps 0 bs)[done.length]?=some (done.flatten.length,b.length):=by rw[hb,Ld,zC]
  have hl:done.flatten.length+b.length<=bs.flatten.length:=by rw[hb,jm,List.flatten_cons,ze,ze];omega
  have hbl:done.length<bs.length:=by rw[hb,ze,zE];omega
  cases ms with
  |nil =>
   have:=jn (show fnC bs ((done.length:Int),(s:Int))=true from w)
   have z:(done.length:Int)=(bs.length:Int):=this;omega
  |cons m ms =>
   obtain⟨_,w2,w3⟩:=w;obtain⟨_,p,hp',hm⟩:=K7 (List.mem_of_find?_eq_some w2);rw[hp] at hp';cases hp'
   have hb':bs=(done++[b])++rest:=by rw[zJ];exact hb
   have fl:(done++[b]).flatten.length=done.flatten.length+b.length:=by rw[jm,List.flatten_singleton,ze]
   have dl:(done++[b]).length=done.length+1:=by rw[ze];rfl
   have hsg:(seg bs.flatten (done.flatten.length,b.length)).length<=100:=by rw[Dq hl];omega
   have go:∀(s':Nat) (O1:ao) (ns1:List Nat) (V1:List Sg),stV bs.flatten V m.name (done.flatten.length,b.length)=V1->(s'=0\/s'=1)->m.other=((done.length:Int)+1,(s':Int))->StV r bs.flatten (done.flatten.length+b.length) s' V1->HW O1 (V1.map (wr pl)) ns1->ns1.Nodup->(∀n∈ns1,O0.length<=n)->Agr O0 O1->O0.length<=O1.length->V1.length<=done.length+1->kE (eR pl d e nm (hT (V.map (wr pl)) ns) (some (.str m.name)) (some (dZ (done.flatten.length,b.length)))) O=.nx (eR pl d e nm (hT (V1.map (wr pl)) ns1) (some (.str m.name)) (some (dZ (done.flatten.length,b.length)))) O1 ->
     RwO pl d e nm r bs.flatten O0 (di ((m::ms).map λm=>.str m.name) ((sps done.flatten.length (b::rest)).map dZ)) (eR pl d e nm (hT (V.map (wr pl)) ns) a5 a6) O (rnV bs.flatten V ((m::ms).map (·.name)) (sps done.flatten.length (b::rest))):=λs' O1 ns1 V1 eV hs' hmo st1 hw1 hnd1 hlb1 ag1 hO1 hV1 eb=>by
    have ih:=Le (pl:=pl) (d:=d) (nm:=nm) (r:=r) hbs hq he (ps:=ps) rest (done++[b]) s' ms O1 V1 ns1 (some (.str m.name)) (some (dZ (done.flatten.length,b.length))) hb' hs' (by rw[hmo] at w3;rw[dl];exact w3) (by rw[fl];exact st1) hw1 hnd1 hlb1 ag1 hO1 (by rw[dl];exact hV1);rw[fl] at ih
    have er:rnV bs.flatten V ((m::ms).map (·.name)) (sps done.flatten.length (b::rest))=rnV bs.flatten V1 (ms.map (·.name)) (sps (done.flatten.length+b.length) rest):=by
     rw[<-eV];rfl
    rw[er];obtain⟨O',ns',a5',a6',e1,r1⟩:=ih;refine⟨O',ns',a5',a6',?_,r1⟩;show cY gz kE (.tup [.str m.name,dZ (done.flatten.length,b.length)]::di (ms.map λm=>.str m.name) ((sps (done.flatten.length+b.length) rest).map dZ)) _ O=_;unfold cY;rw[show gz (.tup [.str m.name,dZ (done.flatten.length,b.length)]) (eR pl d e nm (hT (V.map (wr pl)) ns) a5 a6)=some (eR pl d e nm (hT (V.map (wr pl)) ns) (some (.str m.name)) (some (dZ (done.flatten.length,b.length)))) from rfl];dsimp only;rw[eb];exact e1
   have hlt:=km hw
   rcases hm with⟨hn,ha,ho⟩ | ⟨hn,hs0,ho⟩ | ⟨hn,hs1,ho⟩
   ·refine go 0 O ns V (by rw[hn];rfl) (.inl rfl) ho (st.pass ha) hw hnd hlb ag hO (by omega) ?_;rw[hn];exact Zw
   ·have hw1:HW (O++[bu (seg bs.flatten (done.flatten.length,b.length))]) (V.map (wr pl)) ns:=pH (λn hn=>zv (hlt.1 n hn)) hw;obtain⟨h1,h2⟩:=vZ (W':=[wr pl (done.flatten.length,seg bs.flatten (done.flatten.length,b.length))]) (ns':=[O.length]) ⟨by simp[wO,wr],trivial⟩ hw1;refine go 1 (O++[bu (seg bs.flatten (done.flatten.length,b.length))]) (ns++[O.length]) (V++[(done.flatten.length,seg bs.flatten (done.flatten.length,b.length))]) (by rw[hn];rfl) (.inr rfl) ho (st.begn hl) (by rw[zD];exact h1) (zZ.mpr ⟨hnd,by simp,λx hx y hy z=>by rw[zp.mp hy] at z;have:=hlt.1 x hx;omega⟩) (λn hn=>?_) (λj hj=>(zv (by omega)).trans (ag j hj)) (by simp;omega) (by simp;omega) ?_
    ·rcases zF.mp hn with hn | hn
     ·exact hlb n hn
     ·rw[zp.mp hn];exact hO
    ·have eb:=Zy (pl:=pl) (d:=d) (nm:=nm) (T:=hT (V.map (wr pl)) ns) (p:=(done.flatten.length,b.length)) (he.agr ag) (by omega) (by rw[hlt.2.2,zd];omega);rw[hn,eb,zD];refine congrArg (λT=>Fl.nx (eR pl d e nm T _ _) _) ?_;exact h2.symm
   ·obtain rfl:s=1:=by omega
    obtain⟨st1,V',x,rfl⟩:=st.onn hl;rw[Ds] at st1;rw[zD] at hw;obtain⟨ks,n,rfl,hw1,hn1,hT1⟩:=La hw;have hnd':=zZ.mp hnd
    have nk:n∉ks:=λz=>hnd'.2.2 n z n (zp.mpr rfl) rfl
    have nO:=hlb n (zM _ (zp.mpr rfl));obtain⟨h1,h2⟩:=vZ (O:=O.set n (bu (x.2++seg bs.flatten (done.flatten.length,b.length)))) (W':=[wr pl (x.1,x.2++seg bs.flatten (done.flatten.length,b.length))]) (ns':=[n]) ⟨pF hn1,trivial⟩ (pH (λm hm=>zt (λz:n=m=>nk (by rw[z];exact hm))) hw1)
    have xl:x.2.length<=100:=by
     have:=(st.inn x (zM _ (zp.mpr rfl))).1
     omega
    refine go 1 (O.set n (bu (x.2++seg bs.flatten (done.flatten.length,b.length)))) (ks++[n]) (V'++[(x.1,x.2++seg bs.flatten (done.flatten.length,b.length))]) (by rw[hn];exact Ds _ _ _) (.inr rfl) ho st1 (by rw[zD];exact h1) hnd hlb (λj hj=>(zt (by omega)).trans (ag j hj)) (by rw[zU];exact hO) (by rw[ze] at hV ⊢;simp at hV ⊢;omega) ?_;have eb:=Zx (pl:=pl) (d:=d) (nm:=nm) (T:=hT (V'.map (wr pl)) ks) (x:=wr pl x) (n:=n) (p:=(done.flatten.length,b.length)) (he.agr ag) hn1 (by show x.2.length+_<=_;omega);rw[zD,zD];show kE (eR pl d e nm (hT (V'.map (wr pl)++[wr pl x]) (ks++[n])) _ _) O=.nx (eR pl d e nm (hT (V'.map (wr pl)++[wr pl (x.1,x.2++seg bs.flatten (done.flatten.length,b.length))]) (ks++[n])) _ _) _
    rw[hT1,hn,eb,h2];rfl
theorem Dt{n:Nat}{all:List D}{g:MG}{b:MS}(Pv:Nat->az->ao->Prop)(hn:∀k ρ O,Pv k ρ O->O[n]?=some (.ml all))
  (hs:∀i d ρ O,all[i]?=some d->Pv i ρ O->∃ρ1,g (.tup [.int (i:Int),d]) ρ=some ρ1/\∃ρ2 O2,b ρ1 O=.nx ρ2 O2/\Pv (i+1) ρ2 O2):∀(ds:List D) (k:Nat) (ρ:az) (O:ao),k+ds.length=all.length->Pv k ρ O->∃ρ' O',iT n all g b ds ρ O=.nx ρ' O'/\Pv all.length ρ' O'
 | [],k,ρ,O,hk,h=>by
  rw[jh,Nat.add_zero] at hk;refine⟨ρ,O,?_,hk ▸ h⟩;unfold iT;rw[hn k ρ O h];dsimp only;rw[if_pos rfl]
 |d::ds,k,ρ,O,hk,h=>by
  rw[zE] at hk
  have hi:all.length - (ds.length+1)=k:=by omega
  have hx:all[k]?=some (all[k]'(by omega)):=zg _;obtain⟨ρ1,e1,ρ2,O2,e2,h2⟩:=hs k _ ρ O hx h;obtain⟨ρ',O',e3,h3⟩:=Dt Pv hn hs ds (k+1) ρ2 O2 (by omega) h2;refine⟨ρ',O',?_,h3⟩;unfold iT;rw[hn k ρ O h];dsimp only;rw[hi,hx];dsimp only;rw[e1];dsimp only;rw[e2];exact e3
theorem v7{r q:Row}(hr:ROk r)(hq:ROk q)(wq:Wf q)(hl:q.length<=40):∃V:List Sg,(∃s,StV r q q.length s V)/\V.length<=40/\∀(pl:Nat) (O:ao) (d e:D),Is O d r->Is O e q ->
  ∃O' ns,u9 [.int (pl:Int),d,e] O=.ok (.lst (hT (V.map (wr pl)) ns)) O'/\HW O' (V.map (wr pl)) ns/\ns.Nodup/\(∀n∈ns,O.length<=n)/\Agr O O'/\O.length<=O'.length:=by
 obtain⟨bs,hbs,rfl⟩:=wq;have bl:=vV hbs;obtain⟨_,ps0,c0,ms0,_,_,hP0,_,w0⟩:=K6 (trC hbs hl hr hq 0) (neC r bs) (by omega) (O:=[.ins "Change" (fs2 r bs)]) rfl
 have main:∀(pl:Nat) (O:ao) (d e nm:D),Is O e bs.flatten->∀O2:ao,Agr O O2->O.length<=O2.length->RwO pl d e nm r bs.flatten O (di (ms0.map λm=>.str m.name) ((sps 0 bs).map dZ)) (eR pl d e nm [] none none) O2 (rnV bs.flatten [] (ms0.map (·.name)) (sps 0 bs)):=λpl O d e nm he O2 ag hO =>
  Le (by omega) (by omega) he bs [] 0 ms0 O2 [] [] none none rfl (.inl rfl) w0 ⟨λx hx=>(nomatch hx),λi hi=>absurd hi (Nat.not_lt_zero _),λz=>(nomatch z)⟩ trivial List.nodup_nil (λn hn=>(nomatch hn)) ag hO (zb _)
 obtain⟨_,_,_,_,_,st,_⟩:=main 0 [] (.lst (bs.flatten.map dC)) (.lst (bs.flatten.map dC)) .non (.inl rfl) [] (λ_ _=>rfl) (zb _)
 have rl:∀(ns:List (List Nat)) (V:List Sg) (ps:List (Nat×Nat)),(rnV bs.flatten V ns ps).length<=V.length+ps.length:=by
  intro ns
  induction ns with
  |nil=>intro V ps;cases ps<;>simp[rnV]
  |cons n ns ih =>
   intro V ps
   cases ps with
   |nil=>simp[rnV]
   |cons p ps =>
    have:=ih (stV bs.flatten V n p) ps
    have hv:(stV bs.flatten V n p).length<=V.length+1:=by
     unfold stV exl
     split
     ·omega
     ·split
      ·simp
      ·split
       ·simp
       ·omega
    show(rnV bs.flatten (stV bs.flatten V n p) ns ps).length<=_;rw[zE];omega
 have rl0:=rl (ms0.map (·.name)) [] (sps 0 bs);rw[kj,jh] at rl0;refine⟨_,st,by omega,λpl O d e hd he=>?_⟩;have ei:=YK O hbs (by omega) hr hq hd he;obtain⟨O2,ps,c,ms,e2,keep,hP,_,w⟩:=K6 (trC hbs hl hr hq O.length) (neC r bs) (by omega) (O:=O++[.ins "Change" (fs2 r bs)]) su;have em:=K9 (trC hbs hl hr hq 0).fw hP0 hP ms0 ms 0 (0,0) (Nat.zero_le _) (by simp[ndC]) w0 w;subst em
 have ag:Agr O O2:=λj hj=>by
  have h1:O[j]?=some O[j]:=zg hj;rw[h1];exact keep j _ (by rw[zv hj];exact h1)
 have hO:O.length<=O2.length:=by
  have:=(zh.mp (keep O.length _ su)).1
  omega
 obtain⟨O',ns,a5,a6,ef,_,h1,h2,h3,h4,h5⟩:=main pl O d e (.lst (ms.map λm=>.str m.name)) he O2 ag hO;refine⟨O',ns,?_,h1,h2,h3,h4,h5⟩
 have mk:mF "Change" rG (ak (aa 1) (ak (aa 2) au)) [some (.int (pl:Int)),some d,some e,none,none,none,none] O=.ok (.ob O.length) (O++[.ins "Change" (fs2 r bs)]):=by
  rw[WY,maS (x:=d) rfl (ma1 (x:=e) rfl),aO,ei,W0]
 have s3:aj gIx (aJ uW (ak (mF "Change" rG (ak (aa 1) (ak (aa 2) au))) au)) (mC (.int 1)) [some (.int (pl:Int)),some d,some e,none,none,none,none] O=.ok (.lst (ms.map λm=>.str m.name)) O2:=by
  rw[yx,yD,mO,mk,aO,uC,aO,aO,e2,aO,m_c,aO];rfl
 have ez:qz (aa 3) (aJ oU (ak (aa 2) au)) (eR pl d e (.lst (ms.map λm=>.str m.name)) [] none none) O2=.ok (di (ms.map λm=>.str m.name) ((sps 0 bs).map dZ)) O2:=by
  rw[Xa,show aa 3 (eR pl d e (.lst (ms.map λm=>D.str m.name)) [] none none) O2=.ok (.lst (ms.map λm=>.str m.name)) O2 from rfl,aO,cL (ma1 (x:=e) rfl),Kl bs hbs (by omega) O2 e (he.agr ag),aO,Xb]
 unfold kE gz at ef;show bx (u6 [some (.int (pl:Int)),some d,some e,none,none,none,none] O)=_;unfold u6;rw[sq (jN s3),sq (bQ (d:=.lst []) (rY rfl (Nat.zero_le _)))];show bx (aB (bY _ _ _) _ (eR pl d e (.lst (ms.map λm=>.str m.name)) [] none none) O2)=_;rw[bD,gf,ez,gh,ef,bB];rfl
open Classical in
noncomputable def rwV(r q:Row):List Sg:=if h:ROk r/\ROk q/\Wf q/\q.length<=40/\r≠q then(v7 h.1 h.2.1 h.2.2.1 h.2.2.2.1).choose else[]
noncomputable def pwk(P Q:List Row)(k:Nat):List Wr:=(List.range k).flatMap λi=>(rwV (P.getD i []) (Q.getD i [])).map (wr i)
def HP(O:ao)(D':D)(P:List Row):Prop:=∃is:List Nat,(D'=pD is\/∃h,D'=.ob h/\O[h]?=some (.ml (is.map D.ob)))/\is.length=P.length/\∀(k i:Nat),is[k]?=some i->∃r,P[k]?=some r/\O[i]?=some (bu r)
theorem HP.agr{O O':ao}{D':D}{P:List Row}(h:HP O D' P)(a:Agr O O'):HP O' D' P:=by
 obtain⟨is,h1,h2,h3⟩:=h;refine⟨is,?_,h2,λk i hk=>?_⟩
 ·rcases h1 with h1 | ⟨n,h1,h4⟩
  ·exact .inl h1
  ·exact .inr ⟨n,h1,(a n (zh.mp h4).1).trans h4⟩
 ·obtain⟨r,e1,e2⟩:=h3 k i hk;exact⟨r,e1,(a i (zh.mp e2).1).trans e2⟩
def lQ:MS:=(bz (aQ (aj gNe (aj gIx (aa 0) (aa 3)) (aa 4))) (oh 2 (aJ u9 (ak (aa 3) (ak (aj gIx (aa 0) (aa 3)) (ak (aa 4) au))))) bI)
def eA(D1 D2:D)(T:List D)(a3 a4:Option D):az:=[some D1,some D2,some (.lst T),a3,a4]
structure PW(O0 O:ao)(W:List Wr)(ns:List Nat):Prop where
 hw:HW O W ns
 nd:ns.Nodup
 lb:∀n∈ns,O0.length<=n
 ag:Agr O0 O
 le:O0.length<=O.length
theorem Zz{h w:Nat}(hh:h<=12)(hw40:w<=40){P Q:List Row}(hP:Pic P h w)(hQ:Pic Q h w){O0 O:ao}{D1 D2:D}(h1:HP O0 D1 P){k j:Nat}(hk:k<h)(hj:O0[j]?=some (bu (Q.getD k []))){ns:List Nat}(pw:PW O0 O (pwk P Q k) ns)(hWl:(pwk P Q k).length<=40 * k):
  ∃O' ns',lQ (eA D1 D2 (hT (pwk P Q k) ns) (some (.int (k:Int))) (some (.ob j))) O=.nx (eA D1 D2 (hT (pwk P Q (k+1)) ns') (some (.int (k:Int))) (some (.ob j))) O'/\PW O0 O' (pwk P Q (k+1)) ns'/\(pwk P Q (k+1)).length<=40 * (k+1):=by
 have hkP:k<P.length:=by rw[hP.len];exact hk
 have hkQ:k<Q.length:=by rw[hQ.len];exact hk
 have gP:P[k]?=some (P.getD k []):=by rw[zQ,zg hkP];rfl
 have gQ:Q[k]?=some (Q.getD k []):=by rw[zQ,zg hkQ];rfl
 have mP:=zy gP;have mQ:=zy gQ
 have eW:pwk P Q (k+1)=pwk P Q k++(rwV (P.getD k []) (Q.getD k [])).map (wr k):=by
  unfold pwk;rw[List.range_succ,List.flatMap_append,List.flatMap_singleton]
 obtain⟨is,hD,hil,hrow⟩:=h1.agr pw.ag;obtain⟨i,hi⟩:∃i,is[k]?=some i:=⟨_,zg (by rw[hil];exact hkP)⟩;obtain⟨r',er,ei⟩:=hrow k i hi;rw[gP] at er;cases er;have ej:O[j]?=some (bu (Q.getD k [])):=(pw.ag j (zh.mp hj).1).trans hj
 have ix:aj gIx (aa 0) (aa 3) (eA D1 D2 (hT (pwk P Q k) ns) (some (.int (k:Int))) (some (.ob j))) O=.ok (.ob i) O:=aU (x:=D1) (y:=.int (k:Int)) rfl rfl (by
  have:aZ O D1=.lst (is.map D.ob):=by
   rcases hD with rfl | ⟨n,rfl,hn⟩
   ·rfl
   ·exact jt hn
  rw[this]
  exact jr (by rw[zl,hi];rfl))
 have okP:=(sE (hP.ok _ mP)).2.2.2;have okQ:=(sE (hQ.ok _ mQ)).2.2.2
 have tst:aQ (aj gNe (aj gIx (aa 0) (aa 3)) (aa 4)) (eA D1 D2 (hT (pwk P Q k) ns) (some (.int (k:Int))) (some (.ob j))) O=.ok (!dz (dRw (P.getD k [])) (dRw (Q.getD k []))) O:=fX (aU ix (y:=.ob j) rfl (by
  rw[jt ei,jt ej];show gNe (dRw _) (dRw _)=_;unfold dRw at okP okQ ⊢
  rw[Ww,okP,okQ,Bool.and_self,if_pos rfl]))
 by_cases he:P.getD k []=Q.getD k []
 ·have eV:rwV (P.getD k []) (Q.getD k [])=[]:=by
   unfold rwV;rw[dif_neg λz=>z.2.2.2.2 he]
  rw[eV,zN,zS] at eW;rw[eW];refine⟨O,ns,?_,pw,by omega⟩;rw[he,qU okQ] at tst;unfold lQ;rw[dD tst];rfl
 ·have hc:ROk (P.getD k [])/\ROk (Q.getD k [])/\Wf (Q.getD k [])/\(Q.getD k []).length<=40/\P.getD k []≠Q.getD k []:=⟨hP.ok _ mP,hQ.ok _ mQ,hQ.wf _ mQ,by rw[hQ.wd _ mQ];exact hw40,he⟩
  have eV:rwV (P.getD k []) (Q.getD k [])=(v7 hc.1 hc.2.1 hc.2.2.1 hc.2.2.2.1).choose:=by
   unfold rwV;rw[dif_pos hc]
  obtain⟨_,vl,ev⟩:=(v7 hc.1 hc.2.1 hc.2.2.1 hc.2.2.2.1).choose_spec;rw[<-eV] at vl ev;obtain⟨O',ns',e1,g1,g2,g3,g4,g5⟩:=ev k O (.ob i) (.ob j) (.inr ⟨i,rfl,ei⟩) (.inr ⟨j,rfl,ej⟩);have hlt:=km pw.hw;have hle:=pw.le;obtain⟨k1,k2⟩:=vZ g1 (pH (λn hn=>g4 n (hlt.1 n hn)) pw.hw);rw[eW];refine⟨O',ns++ns',?_,⟨k1,zZ.mpr ⟨pw.nd,g2,λx hx y hy z=>by have:=hlt.1 x hx;have:=g3 y hy;omega⟩,λn hn=>?_,λx hx=>(g4 x (by omega)).trans (pw.ag x hx),by omega⟩,by rw[ze,zd];omega⟩
  ·have ne:dz (dRw (P.getD k [])) (dRw (Q.getD k []))=false:=Bool.eq_false_iff.mpr λz=>he (vY z)
   rw[ne] at tst;have hg1:=km g1;unfold lQ;rw[gn tst,W2,cL (maS (x:=.int (k:Int)) rfl (maS ix (ma1 (x:=.ob j) rfl))),e1,W3 (ds:=hT (pwk P Q k) ns) rfl (by rw[hlt.2.2,hg1.2.2,zd];omega),k2];rfl
  ·rcases zF.mp hn with hn | hn
   ·exact pw.lb n hn
   ·have:=g3 n hn
    omega
structure WOk(h w:Nat)(x:Wr):Prop where
 rw:x.1<h
 cl:x.2.1+x.2.2.length<=w
 ok:ROk x.2.2
def put(Q:List Row)(x:Wr):List Row:=Q.set x.1 (ck x.2.1 x.2.2 x.2.2.length ((Q[x.1]?).getD []))
def lay(W:List Wr)(P:List Row):List Row:=W.foldl put P
theorem puL(Q:List Row)(x:Wr):(put Q x).length=Q.length:=zU
theorem Du:∀(W:List Wr) (P:List Row),(lay W P).length=P.length
 | [],_=>rfl
 |x::W,P=>(Du W (put P x)).trans (puL P x)
theorem Lf{w:Nat}{Q:List Row}{x:Wr}(hx:x.1<Q.length)(h:∀r∈Q,r.length=w):∀r∈put Q x,r.length=w:=λr hr=>by
 rcases List.mem_or_eq_of_mem_set hr with hr | rfl
 ·exact h r hr
 ·rw[vQ,zg hx,Option.getD_some];exact h _ (zW hx)
theorem Dv{w:Nat}:∀{W:List Wr}{P:List Row},(∀x∈W,x.1<P.length)->(∀r∈P,r.length=w)->∀r∈lay W P,r.length=w
 | [],_,_,h=>h
 |x::W,P,hx,h=>Dv (W:=W) (P:=put P x) (λy hy=>by rw[puL];exact hx y (zw _ hy)) (Lf (hx x zr) h)
theorem ZC{W:List Wr}{P:List Row}{i:Nat}{x:Wr}(h:W[i]?=some x):lay (W.take (i+1)) P=put (lay (W.take i) P) x:=by
 have hi:=(zh.mp h).1;rw[List.take_succ_eq_append_getElem hi]
 have:W[i]=x:=(zh.mp h).2
 rw[this];unfold lay;rw[List.foldl_append];rfl
theorem ZD{O:ao}{Q:List Row}{r c j:Nat}{row:Row}{cs:Row}{d:C}(hr:r<Q.length)(hj:cs[j]?=some d)(hw:c+cs.length<=row.length){mo mi m:L2.M D}{ρ:az}
  (h:∀O',m ρ O'=.ok (dC d) O') (ho:∀O',mo ρ O'=.ok (.ob (O.length+r)) O') (hi:∀O',mi ρ O'=.ok (.int ((c+j:Nat):Int)) O'):
  lE mo mi m ρ (O++(Q.set r (ck c cs j row)).map bu)=.nx ρ (O++(Q.set r (ck c cs (j+1) row)).map bu):=by
 have hjl:=(zh.mp hj).1;have s:=setC (O:=O) (Q:=Q.set r (ck c cs j row)) (t:=r) (j:=c+j) (row:=ck c cs j row) (c:=d) (by rw[zO hr]) (h _) (ho _) (hi _) (by rw[vQ];omega);rw[s,List.set_set];show Fl.nx ρ _=Fl.nx ρ (O++(Q.set r ((ck c cs j row).set (c+j) ((cs[j]?).getD bl))).map bu);rw[hj,Option.getD_some]
theorem Lg{Q:List Row}{x:Wr}{row:Row}(h:Q[x.1]?=some row):put Q x=Q.set x.1 (ck x.2.1 x.2.2 x.2.2.length row):=by
 unfold put;rw[h,Option.getD_some]
def g2:MG:=fO 2 (cP (mgN 4) (cP (mgN 5) fU))
def Lh:MS:=lE (aj gIx (aa 2) (aj gIx (aa 3) (mC (.int 0)))) (aj aN (aj gIx (aa 3) (mC (.int 1))) (aa 4)) (aa 5)
def v8:MS:=j7 (aj gIx (aa 3) (mC (.int 2))) g2 Lh
def eQ(A B:D)(is:List Nat)(a3 a4 a5:Option D):az:=[some A,some B,some (pD is),a3,a4,a5]
theorem ZF(A B:D)(h w:Nat)(hw:w<=40)(x:Wr)(n:Nat)(hx:WOk h w x)(O:ao)(hn:O[n]?=some (wO x)){Q:List Row}(hQ:Q.length=h)(hQw:∀r∈Q,r.length=w)(a4 a5:Option D):
  ∃b4 b5,v8 (eQ A B (ids O.length h) (some (dH x n)) a4 a5) (O++Q.map bu)=.nx (eQ A B (ids O.length h) (some (dH x n)) b4 b5) (O++(put Q x).map bu):=by
 have hxr:=hx.rw;have hxc:=hx.cl;have hq:Q[x.1]?=some (Q[x.1]'(by omega)):=zg _;have hrw:=hQw _ (zW (show x.1<Q.length by omega))
 generalize Q[x.1]'(by omega)=row at hq hrw
 have hnl:=(zh.mp hn).1
 have hn':∀E:ao,(O++E)[n]?=some (.ml (x.2.2.map dC)):=λE=>by
  rw[zv hnl];exact hn
 obtain⟨ρ1,O1,e1,b4,b5,rfl,rfl⟩:=Dt (n:=n) (all:=x.2.2.map dC) (g:=g2) (b:=Lh)
  (λj ρ O'=>∃b4 b5,O'=O++(Q.set x.1 (ck x.2.1 x.2.2 j row)).map bu/\ρ=eQ A B (ids O.length h) (some (dH x n)) b4 b5) (by
   rintro k ρ O' ⟨b4,b5,rfl,rfl⟩
   exact hn' _) (by
   rintro j d ρ O' hj ⟨b4,b5,rfl,rfl⟩;rw[zl] at hj
   cases hd:x.2.2[j]? with
   |none=>rw[hd] at hj;cases hj
   |some c =>
    rw[hd] at hj;cases hj
    refine⟨_,rfl,_,_,ZD (d:=c) (by omega) hd (by omega) (λO'=>rfl) (λO'=>aU (x:=pD (ids O.length h)) (y:=.int (x.1:Int)) rfl (aU (x:=dH x n) (y:=.int 0) rfl rfl rfl) (jr (by rw[zl,Yq _ _ _ hxr];rfl))) (λO'=>by rw[jl];exact dj (aU (x:=dH x n) (y:=.int 1) rfl rfl rfl) rfl),some (.int (j:Int)),some (dC c),rfl,rfl⟩) (x.2.2.map dC) 0 (eQ A B (ids O.length h) (some (dH x n)) a4 a5) (O++Q.map bu) (zC _)
  ⟨a4,a5,by rw[show ck x.2.1 x.2.2 0 row=row from rfl,Yp hq],rfl⟩
 rw[zd] at e1;refine⟨b4,b5,?_⟩;have e0:aj gIx (aa 3) (mC (.int 2)) (eQ A B (ids O.length h) (some (dH x n)) a4 a5) (O++Q.map bu)=.ok (.ob n) (O++Q.map bu):=aU (x:=dH x n) (y:=.int 2) rfl rfl rfl;unfold v8 j7;rw[e0];dsimp only;unfold qJ;rw[e0];dsimp only;rw[hn'];dsimp only;rw[e1,Lg hq]
theorem Li{O:ao}:∀{W:List Wr}{ns:List Nat}{i:Nat}{d:D},HW O W ns->(hT W ns)[i]?=some d->∃x n,W[i]?=some x/\O[n]?=some (wO x)/\d=dH x n
 | [],[],i,d,_,h=>by cases i<;>cases h
 |x::W,n::ns,0,d,h,e=>by cases e;exact⟨x,n,rfl,h.1,rfl⟩
 |x::W,n::ns,i+1,d,h,e=>by
  obtain⟨y,m,h1,h2,h3⟩:=Li (W:=W) (ns:=ns) (i:=i) (d:=d) h.2 e;exact⟨y,m,h1,h2,h3⟩
 | [],_::_,_,_,h,_=>h.elim
 | _::_,[],_,_,h,_=>h.elim
theorem ZG(h w:Nat)(hh:h<=12)(hw:w<=40){P:List Row}(hP:Pic P h w){W:List Wr}(hW:∀x∈W,WOk h w x){O:ao}{is:List Nat}{lo hi:Nat}(hp:Pc O is P lo hi){ns:List Nat}(hd:HW O W ns):vh [pD is,.lst (hT W ns)] O=.ok (pD (ids O.length h)) (O++(lay W P).map bu):=by
 obtain⟨ρ1,O1,e1,a3,a4,a5,rfl,rfl⟩:=gj (g:=mgN 3) (b:=v8)
  (λk ρ O'=>∃(a3 a4 a5:Option D),O'=O++(lay (W.take k) P).map bu/\ρ=eQ (pD is) (.lst (hT W ns)) (ids O.length h) a3 a4 a5) (hT W ns) 0 (eQ (pD is) (.lst (hT W ns)) (ids O.length h) none none none) (O++P.map bu)
  ⟨none,none,none,rfl,rfl⟩ (by
   rintro i d ρ O' hi ⟨a3,a4,a5,rfl,rfl⟩;obtain⟨x,n,hx,hn,rfl⟩:=Li hd hi
   ·rw[zC,ZC hx];have hxw:=hW x (zy hx);obtain⟨b4,b5,hb⟩:=ZF (pD is) (.lst (hT W ns)) h w hw x n hxw O hn (Q:=lay (W.take i) P) (by rw[Du,hP.len]) (Dv (λy hy=>by rw[hP.len];exact(hW y (List.mem_of_mem_take hy)).rw) hP.wd) a4 a5
    exact⟨_,rfl,_,_,.inl hb,_,b4,b5,rfl,rfl⟩)
 rw[(km hd).2.2,zC,List.take_of_length_le (zb _)] at e1
 have s2:aC 2 (cI (cB (aa 0)) 1 [] (mgN 0) cT (mMl (aX jE (ak (aa 0) au)))) [some (pD is),some (.lst (hT W ns)),none,none,none,none] O=.nx (eQ (pD is) (.lst (hT W ns)) (ids O.length h) none none none) (O++P.map bu):=by
  rw[<-hP.len];exact J0 (CW hp (by rw[hp.len,hP.len];omega) rfl)
 show bx (aB _ (aB (bY (cB (aa 1)) (mgN 3) v8) (aW (aa 2))) [some (pD is),some (.lst (hT W ns)),none,none,none,none] O)=_;rw[bD,s2,bB,bD,gf,iB (l:=hT W ns) rfl,gh,e1,bB];rfl
def gp:MG:=fO 2 (cP (mgN 3) (cP (mgN 4) fU))
theorem Lj{h w:Nat}(hh:h<=12)(hw40:w<=40){P Q:List Row}(hP:Pic P h w)(hQ:Pic Q h w){O:ao}{D1 D2:D}(h1:HP O D1 P)(h2:HP O D2 Q):∃O' ns,lK [D1,D2] O=.ok (.lst (hT (pwk P Q h) ns)) O'/\PW O O' (pwk P Q h) ns/\(pwk P Q h).length<=480:=by
 obtain⟨is,hD,hil,hrow⟩:=h2
 have row:∀k j,is[k]?=some j->k<h/\O[j]?=some (bu (Q.getD k [])):=λk j hk=>by
  obtain⟨r,e1,e2⟩:=hrow k j hk;refine⟨by rw[<-hQ.len];exact(zh.mp e1).1,?_⟩;rw[zQ,e1];exact e2
 have p0:PW O O (pwk P Q 0) []:=⟨trivial,List.nodup_nil,λn hn=>(nomatch hn),λ_ _=>rfl,zb _⟩
 have turn:∀(i j:Nat) (ns:List Nat) (O1:ao) (a3 a4:Option D),is[i]?=some j->PW O O1 (pwk P Q i) ns->(pwk P Q i).length<=40 * i->∃ρ1,gp (.tup [.int (i:Int),.ob j]) (eA D1 D2 (hT (pwk P Q i) ns) a3 a4)=some ρ1/\∃ρ2 O2,lQ ρ1 O1=.nx ρ2 O2/\∃ns' b3 b4,ρ2=eA D1 D2 (hT (pwk P Q (i+1)) ns') b3 b4/\PW O O2 (pwk P Q (i+1)) ns'/\(pwk P Q (i+1)).length<=40 * (i+1):=λi j ns O1 a3 a4 hi pw hl=>by
  obtain⟨hk,hj⟩:=row i j hi;obtain⟨O2,ns',e1,e2,e3⟩:=Zz (D2:=D2) hh hw40 hP hQ h1 hk hj pw hl;exact⟨_,rfl,_,_,e1,ns',_,_,rfl,e2,e3⟩
 have fin:∀(ns:List Nat) (O':ao) (a3 a4:Option D),j7 (aa 1) gp lQ (eA D1 D2 [] none none) O=.nx (eA D1 D2 (hT (pwk P Q h) ns) a3 a4) O'->lK [D1,D2] O=.ok (.lst (hT (pwk P Q h) ns)) O':=λns O' a3 a4 e=>by
  unfold gp lQ at e;show bx (vf [some D1,some D2,none,none,none] O)=_;unfold vf;rw[sq (bQ (d:=.lst []) (rY rfl (Nat.zero_le _)))];show bx (aB (j7 _ _ _) _ (eA D1 D2 [] none none) O)=_;rw[sq e];rfl
 have hQl:=hQ.len
 rcases hD with rfl | ⟨n,rfl,hn⟩
 ·obtain⟨ρ',O',e,ns,a3,a4,rfl,pw,hl⟩:=gj (g:=gp) (b:=lQ) (λk ρ O1=>∃ns a3 a4,ρ=eA D1 (pD is) (hT (pwk P Q k) ns) a3 a4/\PW O O1 (pwk P Q k) ns/\(pwk P Q k).length<=40 * k) (eZ 0 (is.map D.ob)) 0 (eA D1 (pD is) [] none none) O ⟨[],none,none,rfl,p0,zb _⟩ (by
   rintro i d ρ O1 hi ⟨ns,a3,a4,rfl,pw,hl⟩
   obtain⟨j,hj,rfl⟩:∃j,is[i]?=some j/\d=.tup [.int (i:Int),.ob j]:=by
    rw[qx,zC,zl] at hi
    cases hj:is[i]? with
    |none=>rw[hj] at hi;cases hi
    |some j=>rw[hj] at hi;cases hi;exact⟨j,rfl,rfl⟩
   rw[zC] at pw hl ⊢;obtain⟨ρ1,g1,ρ2,O2,g2,r⟩:=turn i j ns O1 a3 a4 hj pw hl
   exact⟨ρ1,g1,ρ2,O2,.inl g2,r⟩)
  rw[nZ,zd,hil,hQl,zC] at pw hl e;refine⟨O',ns,fin ns O' a3 a4 ?_,pw,by omega⟩;rw[<-e];rfl
 ·obtain⟨ρ',O',e,ns,a3,a4,rfl,pw,hl⟩:=Dt (n:=n) (all:=is.map D.ob) (g:=gp) (b:=lQ) (λk ρ O1=>∃ns a3 a4,ρ=eA D1 (.ob n) (hT (pwk P Q k) ns) a3 a4/\PW O O1 (pwk P Q k) ns/\(pwk P Q k).length<=40 * k) (by
   rintro k ρ O1 ⟨ns,a3,a4,rfl,pw,_⟩
   exact(pw.ag n (zh.mp hn).1).trans hn) (by
   rintro i d ρ O1 hi ⟨ns,a3,a4,rfl,pw,hl⟩;rw[zl] at hi
   cases hj:is[i]? with
   |none=>rw[hj] at hi;cases hi
   |some j =>
    rw[hj] at hi;cases hi
    exact turn i j ns O1 a3 a4 hj pw hl) (is.map D.ob) 0 (eA D1 (.ob n) [] none none) O (zC _) ⟨[],none,none,rfl,p0,zb _⟩
  rw[zd,hil,hQl] at pw hl e;refine⟨O',ns,fin ns O' a3 a4 ?_,pw,by omega⟩;unfold j7 qJ;rw[show(aa 1) (eA D1 (.ob n) [] none none) O=.ok (.ob n) O from rfl];dsimp only;rw[hn];exact e
theorem ZJ{r q:Row}(hr:ROk r)(hq:ROk q)(wq:Wf q)(hl:q.length<=40):∃s,StV r q q.length s (rwV r q):=by
 by_cases he:r=q
 ·have eV:rwV r q=[]:=by
   unfold rwV;rw[dif_neg λz=>z.2.2.2.2 he]
  rw[eV];exact⟨0,λx hx=>(nomatch hx),λi _=>.inr (by rw[he]),λz=>(nomatch z)⟩
 ·have hc:ROk r/\ROk q/\Wf q/\q.length<=40/\r≠q:=⟨hr,hq,wq,hl,he⟩;unfold rwV;rw[dif_pos hc];exact(v7 hc.1 hc.2.1 hc.2.2.1 hc.2.2.2.1).choose_spec.1
def Cv(x:Wr)(i j:Nat):Prop:=x.1=i/\x.2.1<=j/\j<x.2.1+x.2.2.length
instance (x:Wr)(i j:Nat):Decidable (Cv x i j):=by
 unfold Cv
 infer_instance
structure PWk(P Q:List Row)(h w:Nat)(W:List Wr):Prop where
 ok:∀x∈W,WOk h w x
 val:∀x∈W,∀j,x.2.1<=j->j<x.2.1+x.2.2.length->x.2.2[j - x.2.1]?=(Q.getD x.1 [])[j]?
 cov:∀i j,i<h->j<w->(∃x∈W,Cv x i j)\/(P.getD i [])[j]?=(Q.getD i [])[j]?
theorem Pic.get{P:List Row}{h w:Nat}(hP:Pic P h w){i:Nat}(hi:i<h):P[i]?=some (P.getD i [])/\P.getD i []∈P:=by
 have:P[i]?=some (P.getD i []):=by rw[zQ,zg (by rw[hP.len];exact hi)];rfl
 exact⟨this,zy this⟩
theorem Ln{P Q:List Row}{h w:Nat}(hw:w<=40)(hP:Pic P h w)(hQ:Pic Q h w):PWk P Q h w (pwk P Q h):=by
 have st:∀i,i<h->∃s,StV (P.getD i []) (Q.getD i []) (Q.getD i []).length s (rwV (P.getD i []) (Q.getD i [])):=λi hi=>ZJ (hP.ok _ (hP.get hi).2) (hQ.ok _ (hQ.get hi).2) (hQ.wf _ (hQ.get hi).2) (by rw[hQ.wd _ (hQ.get hi).2];exact hw)
 have mem:∀x∈pwk P Q h,∃i,i<h/\∃y∈rwV (P.getD i []) (Q.getD i []),x=wr i y:=λx hx=>by
  obtain⟨i,hi,hx⟩:=List.mem_flatMap.mp hx;obtain⟨y,hy,rfl⟩:=zP.mp hx;exact⟨i,List.mem_range.mp hi,y,hy,rfl⟩
 refine⟨λx hx=>?_,λx hx j j1 j2=>?_,λi j hi hj=>?_⟩
 ·obtain⟨i,hi,y,hy,rfl⟩:=mem x hx;obtain⟨s,st⟩:=st i hi;obtain⟨a,b⟩:=st.inn y hy;rw[hQ.wd _ (hQ.get hi).2] at a;refine⟨hi,a,?_⟩;show ROk y.2;rw[b];exact Dh (hQ.ok _ (hQ.get hi).2)
 ·obtain⟨i,hi,y,hy,rfl⟩:=mem x hx;obtain⟨s,st⟩:=st i hi;obtain⟨a,b⟩:=st.inn y hy;show y.2[j - y.1]?=_;rw[b];exact Dr j1 j2
 ·obtain⟨s,st⟩:=st i hi
  rcases st.cov j (by rw[hQ.wd _ (hQ.get hi).2];exact hj) with⟨y,hy,c1,c2⟩ | hc
  ·exact .inl ⟨wr i y,List.mem_flatMap.mpr ⟨i,List.mem_range.mpr hi,zP.mpr ⟨y,hy,rfl⟩⟩,rfl,c1,c2⟩
  ·exact .inr hc
theorem Lp(P:List Row)(h:Nat):pwk P P h=[]:=by
 unfold pwk
 refine List.flatMap_eq_nil_iff.mpr λi _=>?_
 unfold rwV;rw[dif_neg λz=>z.2.2.2.2 rfl];rfl
theorem ZK{P:List Row}{h w:Nat}(hl:P.length=h)(hw:∀r∈P,r.length=w){x:Wr}(hx:WOk h w x){i j:Nat}(hi:i<h)(hj:j<w):((put P x).getD i [])[j]?=if Cv x i j then some ((x.2.2[j - x.2.1]?).getD bl) else(P.getD i [])[j]?:=by
 have hxr:=hx.rw;have hxc:=hx.cl;have gx:P[x.1]?=some (P[x.1]'(by omega)):=zg _;have lx:=hw _ (zW (show x.1<P.length by omega));rw[Lg gx,zQ,List.getElem?_set]
 by_cases h1:x.1=i
 ·subst h1;rw[if_pos rfl,if_pos (by omega),Option.getD_some,J4 _ _ _ _ _ (by omega)]
  by_cases h2:x.2.1<=j/\j<x.2.1+x.2.2.length
  ·rw[if_pos h2,if_pos ⟨rfl,h2⟩]
  ·rw[if_neg h2,if_neg λz=>h2 z.2,zQ,gx];rfl
 ·rw[if_neg h1,if_neg λz=>h1 z.1,zQ]
theorem Lq{Q:List Row}{h w:Nat}:∀(W:List Wr) (P:List Row),(∀x∈W,WOk h w x)->(∀x∈W,∀j,x.2.1<=j->j<x.2.1+x.2.2.length->x.2.2[j - x.2.1]?=(Q.getD x.1 [])[j]?)->P.length=h->(∀r∈P,r.length=w)->∀i j,i<h->j<w->((lay W P).getD i [])[j]?=(Q.getD i [])[j]?\/(((lay W P).getD i [])[j]?=(P.getD i [])[j]?/\∀x∈W,¬Cv x i j)
 | [],P,_,_,_,_,i,j,_,_=>.inr ⟨rfl,λx hx=>(nomatch hx)⟩
 |x::W,P,ho,hv,hl,hw,i,j,hi,hj=>by
  have hx:=ho x zr;have hxr:=hx.rw;have pg:=ZK hl hw hx hi hj
  rcases Lq (Q:=Q) W (put P x) (λy hy=>ho y (zw _ hy)) (λy hy=>hv y (zw _ hy)) ((puL P x).trans hl) (Lf (by omega) hw) i j hi hj with hr | ⟨hr,hn⟩
  ·exact .inl hr
  ·by_cases hc:Cv x i j
   ·rw[if_pos hc] at pg;refine .inl (hr.trans (pg.trans ?_));obtain⟨c1,c2,c3⟩:=hc;rw[<-c1,<-hv x zr j c2 c3,zg (by omega)];rfl
   ·rw[if_neg hc] at pg;refine .inr ⟨hr.trans pg,λy hy=>?_⟩
    rcases zm.mp hy with rfl | hy
    ·exact hc
    ·exact hn y hy
theorem ZL{P Q:List Row}{h w:Nat}(lP:P.length=h)(wP:∀r∈P,r.length=w)(hQ:Pic Q h w)(he:∀i j,i<h->j<w->(P.getD i [])[j]?=(Q.getD i [])[j]?):P=Q:=by
 refine jk λi=>?_
 by_cases hi:i<h
 ·have gP:P[i]?=some (P.getD i []):=by rw[zQ,zg (by omega)];rfl
  rw[gP,(hQ.get hi).1];congr 1;have l1:=wP _ (zy gP);have l2:=hQ.wd _ (hQ.get hi).2
  refine jk λj=>?_
  by_cases hj:j<w
  ·exact he i j hi hj
  ·rw[zV (by omega),zV (by omega)]
 ·rw[zV (by omega),zV (by rw[hQ.len];omega)]
theorem ZM{P Q:List Row}{h w:Nat}(hw:w<=40)(hP:Pic P h w)(hQ:Pic Q h w):lay (pwk P Q h) P=Q:=by
 have k:=Ln hw hP hQ
 refine ZL ((Du _ _).trans hP.len) (Dv (λx hx=>by rw[hP.len];exact(k.ok x hx).rw) hP.wd) hQ λi j hi hj=>?_
 rcases Lq (pwk P Q h) P k.ok k.val hP.len hP.wd i j hi hj with hr | ⟨hr,hn⟩
 ·exact hr
 ·rcases k.cov i j hi hj with⟨x,hx,hc⟩ | hc
  ·exact absurd hc (hn x hx)
  ·exact hr.trans hc
theorem ZP{O:ao}(n:Nat)(r:Row):(r.map dC).map (cJ O (n+1))=r.map dC:=by
 rw[jb]
 refine jo λc _=>?_
 show D.tup ([D.str c.1,D.str c.2.1,D.str c.2.2].map (cJ O n))=dC c
 cases n<;>rfl
theorem ZQ{O:ao}(n:Nat){r:Row}{i:Nat}(h:O[i]?=some (bu r)):cJ O (n+2) (.ob i)=dRw r:=by
 have h':O[i]?=some (.ml (r.map dC)):=h;unfold cJ;rw[h'];exact congrArg D.lst (ZP n r)
theorem v9{P:List Row}{h w:Nat}(hP:Pic P h w):dw (dP P)=true/\(toP (dP P)).canLay0=true/\(toP (dP P)).depth<=20/\okE (dP P)=true:=by
 have el:∀d∈P.map dRw,dw d=true/\(toP d).canLay0=true/\(toP d).depth<=8:=λd hd=>by
  obtain⟨r,hr,rfl⟩:=zP.mp hd
  have:=sE (hP.ok r hr)
  exact⟨this.1,this.2.1,this.2.2.1⟩
 have q:okE (.lst (P.map dRw))=true:=Il (n:=8) (by decide) el;have qq:=q;unfold okE at q;rw[zn] at q;refine⟨q.1,?_,?_,qq⟩
 ·have:=q.2
  unfold okD at this;rw[zn] at this;exact this.1
 ·unfold dP;rw[toP,uI];show PyData.depthAll _+1<=20
  have z:PyData.depthAll ((P.map dRw).map toP)<=8:=tQ λd hd=>by
   obtain⟨d',hd',rfl⟩:=zP.mp hd;exact(el d' hd').2.2
  omega
theorem Lr:∀{A B:List Row},dz (dP A) (dP B)=true->A=B
 | [],[],_=>rfl
 | [],y::b,h=>by cases h
 |x::a,[],h=>by cases h
 |x::a,y::b,h=>by
  have h':(dz (dRw x) (dRw y)&&dz (dP a) (dP b))=true:=h;rw[zn] at h';rw[vY h'.1,Lr h'.2]
theorem ZR{n:Nat}{ma mb:L2.M D}{ρ:az}{O:ao}{x y z:D}(hi:ma ρ O=.ok x O)(hj:mb ρ O=.ok y O)(h1:cJ O n x=z)(h2:cJ O n y=z)(hz:okE z=true):aQ (fj true n ma mb) ρ O=.ok false O:=by
 refine fX ?_;unfold fj;rw[hi,aO,hj,aO,h1,h2,hz,Bool.and_self,if_pos rfl,if_pos rfl,qU hz];rfl
theorem ZV{O:ao}(n:Nat){is:List Nat}{P:List Row}(hl:is.length=P.length)(h:∀(k i:Nat),is[k]?=some i->∃r,P[k]?=some r/\O[i]?=some (bu r)):(is.map D.ob).map (cJ O (n+2))=P.map dRw:=by
 refine jk λk=>?_
 rw[zl,zl,zl]
 cases hk:is[k]? with
 |none =>
  have:P[k]?=none:=zV (by rw[<-hl];exact List.getElem?_eq_none_iff.mp hk)
  rw[this];rfl
 |some i =>
  obtain⟨r,e1,e2⟩:=h k i hk;rw[e1];exact congrArg some (ZQ n e2)
theorem ZW(h w:Nat)(hh:h<=100)(hw:w<=100)(O:ao):mX [.int (h:Int),.int (w:Int)] O=.ok (pD (ids O.length h)) (O++(List.replicate h (List.replicate w bl)).map bu):=by
 have hr:=lN (m:=aa 0) (ρ:=[some (.int (h:Int)),some (.int (w:Int))]) (O:=O) (n:=h) rfl (by omega);rw[CT] at hr
 have ec:=CV (g:=mgN 0) (t:=cT) (m:=aj cF (bK (ak (mC (.tup [.str [32],.str [46],.str [46]])) au)) (aa 1)) (λρ=>∃a,ρ=[a,some (.int (w:Int))]) (λi:Nat=>D.int (i:Int)) (λ_:Nat=>List.replicate w (dC bl)) O (List.range h) [none,some (.int (w:Int))] [] [] ⟨_,rfl⟩ (by
  rintro i hi ρ ⟨a,rfl⟩ E
  exact⟨_,rfl,⟨_,rfl⟩,rfl,aU (x:=.lst [dC bl]) (y:=.int (w:Int)) rfl rfl (J2 (dC bl) w (by omega))⟩)
 rw[zS] at ec;have hm:=jq (own:=1) (cap:=[1]) hr (by rw[zd,List.length_range];omega) (ρ0:=[none,some (.int (w:Int))]) rfl ec;show bx (aW _ [some (.int (h:Int)),some (.int (w:Int))] O)=_;rw[gR];refine(congrArg (λr=>bx (iZ r)) hm).trans ?_;rw[List.length_range,zK,zK,jh,Nat.add_zero];show Res.ok (pD (ids O.length h)) _=_;congr 2;rw[List.map_replicate,List.map_const',List.length_range];unfold bu;rw[List.map_replicate]
abbrev LT:=Nat×Nat×Nat×Int
def dL(x:LT):D:=.tup [.str [x.1],.str [x.2.1],.str [x.2.2.1],.int x.2.2.2]
def ink(x:LT):Nat:=if x.1=32 then 46 else x.2.1
def big(c:Nat):Bool:=decide (65<=c/\c<=90)
def dK(x:LT):C:=([x.1],[ink x],[x.2.2.1])
def tw(x:LT):List C:=dK x::if big x.1 then[([],[ink x],[x.2.2.1])] else[]
def cells(ls:List LT):List C:=(ls.map tw).flatten
theorem Dw(ls:List LT)(x:LT):cells (ls++[x])=cells ls++tw x:=by
 unfold cells;rw[zD,jm];simp
theorem ZX(x:LT):(tw x).length<=2:=by
 unfold tw
 split<;>simp
theorem Ls:∀ls:List LT,(cells ls).length<=2 * ls.length
 | []=>zb _
 |x::ls=>by
  have:=Ls ls
  have h2:=ZX x;show(tw x++cells ls).length<=_;rw[ze,zE];omega
theorem ZZ(c:Nat)(O:ao):oX [.str [c]] O=.ok (.int (if big c then 2 else 1)) O:=by
 simp only[oX,Bh,Wj,zj,zN,zE,jh,zC,Nat.sub_self,List.replicate_zero,zS,gR,uB,ux,Wb,m_c,uw,List.getElem?_cons_zero,aO,HN,Wt,Wa];unfold big
 by_cases h1:65<=c
 ·by_cases h2:c<=90
  ·simp[h1,h2]
  ·simp[h1,h2]
 ·simp[h1]
theorem Z0(x:LT)(O:ao):rK [.str [x.1],.str [x.2.1]] O=.ok (.str [ink x]) O:=by
 have t:aQ (aj gEq (aa 0) (mC (.str [32]))) [some (.str [x.1]),some (.str [x.2.1])] O=.ok (decide ([x.1]=[32])) O:=fX (aU (x:=.str [x.1]) rfl rfl uG);show bx (aW (mIf (aQ (aj gEq (aa 0) (mC (.str [32])))) (mC (.str [46])) (mG (aa 1))) [some (.str [x.1]),some (.str [x.2.1])] O)=_;rw[gR,uB,t,aO];unfold ink
 by_cases h:x.1=32
 ·rw[h,zz rfl,if_pos rfl,if_pos rfl];rfl
 ·rw[zo (λz=>h (List.cons.inj z).1),if_neg zk,if_neg h];rfl
theorem Z1(ls:List LT)(hl:ls.length<=1000)(O:ao):vp [.lst (ls.map dL)] O=.ok (.lst (ls.map λx=>dC (dK x))) O:=by
 have ec:=qW (g:=mgN 0) (t:=cT) (m:=bU (ak (aj gIx (aa 0) (mC (.int 0))) (ak (aJ rK (ak (aj gIx (aa 0) (mC (.int 0))) (ak (aj gIx (aa 0) (mC (.int 1))) au))) (ak (aj gIx (aa 0) (mC (.int 2))) au)))) (λρ=>∃a,ρ=[a]) dL (λx=>dC (dK x)) ls [none] O [] ⟨_,rfl⟩ (by
  rintro x hx ρ ⟨a,rfl⟩;refine⟨_,rfl,⟨_,rfl⟩,rfl,?_⟩;have b0:aj gIx (aa 0) (mC (.int 0)) [some (dL x)] O=.ok (.str [x.1]) O:=aU (x:=dL x) rfl rfl rfl;have b1:aj gIx (aa 0) (mC (.int 1)) [some (dL x)] O=.ok (.str [x.2.1]) O:=aU (x:=dL x) rfl rfl rfl;have b2:aj gIx (aa 0) (mC (.int 2)) [some (dL x)] O=.ok (.str [x.2.2.1]) O:=aU (x:=dL x) rfl rfl rfl
  have b3:aJ rK (ak (aj gIx (aa 0) (mC (.int 0))) (ak (aj gIx (aa 0) (mC (.int 1))) au)) [some (dL x)] O=.ok (.str [ink x]) O:=by rw[cL (maS b0 (ma1 b1)),Z0]
  exact m7 (maS b0 (maS b3 (ma1 b2))) (show(3:Nat)<=1000000 by decide))
 have hm:=jq (own:=1) (cap:=[]) (iB (m:=aa 0) (ρ:=[some (.lst (ls.map dL))]) (l:=ls.map dL) rfl) (by rw[zd];omega) (ρ0:=[none]) rfl ec;show bx (aW _ [some (.lst (ls.map dL))] O)=_;rw[gR];exact(congrArg (λr=>bx (iZ r)) hm).trans rfl
def wg:MS:=aB (cQ 1 (aa 2)) (bz (aQ (aj gEq (aJ oX (ak (aj gIx (aa 2) (mC (.int 0))) au)) (mC (.int 2)))) (cQ 1 (bU (ak (mC (.str [])) (ak (aj gIx (aa 2) (mC (.int 1))) (ak (aj gIx (aa 2) (mC (.int 2))) au))))) bI)
theorem Z2(ls:List LT)(hl:ls.length<=1000)(O:ao):vz [.lst (ls.map dL)] O=.ok (.lst ((cells ls).map dC)) O:=by
 obtain⟨ρ1,O1,e1,hO1,a2,rfl⟩:=gj (g:=mgN 2) (b:=wg)
  (λk ρ O'=>O'=O/\∃a2,ρ=[some (.lst (ls.map dL)),some (.lst ((cells (ls.take k)).map dC)),a2]) (ls.map λx=>dC (dK x)) 0 [some (.lst (ls.map dL)),some (.lst []),none] O ⟨rfl,none,rfl⟩ (by
   rintro i d ρ O' hi ⟨hO',a2,rfl⟩;have hi2:=(zh.mp hi).1;rw[zd] at hi2;rw[zl,zg hi2] at hi;cases hi;rw[zC];have ht:ls.take (i+1)=ls.take i++[ls[i]]:=List.take_succ_eq_append_getElem hi2;have hcl:=Ls (ls.take i);rw[List.length_take] at hcl
   generalize ls[i]=x at ht
   generalize hcs:cells (ls.take i)=cs at hcl
   have s1:=kh (i:=1) (m:=aa 2) (ρ:=[some (.lst (ls.map dL)),some (.lst (cs.map dC)),some (dC (dK x))]) (O:=O') (ds:=cs.map dC) (d:=dC (dK x)) rfl rfl (by rw[zd];omega)
   have t:aQ (aj gEq (aJ oX (ak (aj gIx (aa 2) (mC (.int 0))) au)) (mC (.int 2))) [some (.lst (ls.map dL)),some (.lst (cs.map dC++[dC (dK x)])),some (dC (dK x))] O'=.ok (big x.1) O':=by
    rw[CQ (i:=if big x.1 then 2 else 1) (j:=2) (by rw[cL (ma1 (aU (x:=dC (dK x)) (z:=.str [x.1]) rfl rfl rfl)),ZZ]) rfl]
    cases big x.1<;>rfl
   have hB:wg [some (.lst (ls.map dL)),some (.lst (cs.map dC)),some (dC (dK x))] O'=.nx [some (.lst (ls.map dL)),some (.lst ((cs++tw x).map dC)),some (dC (dK x))] O':=by
    unfold wg;rw[bD,s1,bB];show bz _ _ _ [some (.lst (ls.map dL)),some (.lst (cs.map dC++[dC (dK x)])),some (dC (dK x))] O'=_
    cases hb:big x.1 with
    |true =>
     rw[hb] at t;have s2:=kh (i:=1) (m:=bU (ak (mC (.str [])) (ak (aj gIx (aa 2) (mC (.int 1))) (ak (aj gIx (aa 2) (mC (.int 2))) au)))) (ρ:=[some (.lst (ls.map dL)),some (.lst (cs.map dC++[dC (dK x)])),some (dC (dK x))]) (O:=O') (ds:=cs.map dC++[dC (dK x)]) (d:=dC ([],[ink x],[x.2.2.1])) (m7 (maS rfl (maS (aU (x:=dC (dK x)) rfl rfl rfl) (ma1 (aU (x:=dC (dK x)) rfl rfl rfl)))) (show(3:Nat)<=1000000 by decide)) rfl (by rw[ze,zd,zY];omega);rw[gn t,s2];unfold tw;rw[hb,if_pos rfl,zD];simp
    |false =>
     rw[hb] at t;rw[dD t];unfold tw;rw[hb,if_neg zk,zD];rfl
   refine⟨_,rfl,_,_,.inl hB,hO',some (dC (dK x)),?_⟩
   rw[ht,Dw,hcs])
 rw[hO1] at e1;rw[zd,zC,List.take_of_length_le (zb _)] at e1;show bx (aB (aC 1 (bK au)) (aB (bY (cB (aJ vp (ak (aa 0) au))) (mgN 2) wg) (aW (aa 1))) [some (.lst (ls.map dL)),none,none] O)=_;rw[bD,show aC 1 (bK au) [some (.lst (ls.map dL)),none,none] O=.nx [some (.lst (ls.map dL)),some (.lst []),none] O from rfl,bB,bD,gf,iB (by rw[cL (ma1 (x:=.lst (ls.map dL)) rfl),Z1 ls hl]),gh,e1,bB];rfl
structure Rm where
 name:List Nat
 top:Nat
 left:Nat
 tall:Nat
 broad:Nat
 way:List Nat
def dR(r:Rm):D:=.tup [.str r.name,.int (r.top:Int),.int (r.left:Int),.int (r.tall:Int),.int (r.broad:Int),.str r.way]
theorem r1(r:Rm):gIx (dR r) (.int 1)=some (.int (r.top:Int)):=rfl
theorem r2(r:Rm):gIx (dR r) (.int 2)=some (.int (r.left:Int)):=rfl
theorem r3(r:Rm):gIx (dR r) (.int 3)=some (.int (r.tall:Int)):=rfl
theorem r4(r:Rm):gIx (dR r) (.int 4)=some (.int (r.broad:Int)):=rfl
def dF(r:Rm)(ls:List LT)(row:Row):Row:=row.take r.left++cells ls++List.replicate (r.broad - (cells ls).length) bl++row.drop (r.left+r.broad)
theorem Z3(r:Rm)(ls:List LT)(hl:ls.length<=1000)(hc:(cells ls).length<=r.broad)(hb:r.broad<=1000)(row:Row)(hrow:row.length<=1000)(d:D)(O:ao)(hd:aZ O d=.lst (row.map dC)):oZ [d,dR r,.lst (ls.map dL)] O=.ok (.lst ((dF r ls row).map dC)) O:=by
 have s1:=bQ (i:=3) (m:=aJ vz (ak (aa 2) au)) (ρ:=[some d,some (dR r),some (.lst (ls.map dL)),none,none]) (O:=O) (d:=.lst ((cells ls).map dC)) (by rw[cL (ma1 (x:=.lst (ls.map dL)) rfl),Z2 ls hl]);have hlen:=rZ (m:=aa 3) (ρ:=[some d,some (dR r),some (.lst (ls.map dL)),some (.lst ((cells ls).map dC)),none]) (O:=O) (l:=(cells ls).map dC) rfl;rw[zd] at hlen
 have b4:aj dO (aj gIx (aa 1) (mC (.int 4))) (aX bF (ak (aa 3) au)) [some d,some (dR r),some (.lst (ls.map dL)),some (.lst ((cells ls).map dC)),none] O=.ok (.int ((r.broad - (cells ls).length:Nat):Int)) O:=by
  rw[Int.ofNat_sub hc];exact m8 (aU (x:=dR r) rfl rfl (r4 r)) hlen
 have s2:=bQ (i:=4) (aU (g:=cF) (a:=bK (ak (mC (.tup [.str [32],.str [46],.str [46]])) au)) (x:=.lst [dC bl]) rfl b4 (J2 (dC bl) _ (by omega)))
 have rr:List.replicate (r.broad - (cells ls).length) (dC bl)=(List.replicate (r.broad - (cells ls).length) bl).map dC:=by rw[List.map_replicate]
 rw[rr] at s2
 generalize hF:List.replicate (r.broad - (cells ls).length) bl=F at s2
 have hFl:F.length=r.broad - (cells ls).length:=by rw[<-hF,List.length_replicate]
 have v0:aa 0 [some d,some (dR r),some (.lst (ls.map dL)),some (.lst ((cells ls).map dC)),some (.lst (F.map dC))] O=.ok d O:=rfl;have q2:aj gIx (aa 1) (mC (.int 2)) [some d,some (dR r),some (.lst (ls.map dL)),some (.lst ((cells ls).map dC)),some (.lst (F.map dC))] O=.ok (.int (r.left:Int)) O:=aU (x:=dR r) rfl rfl (r2 r);have q4:aj gIx (aa 1) (mC (.int 4)) [some d,some (dR r),some (.lst (ls.map dL)),some (.lst ((cells ls).map dC)),some (.lst (F.map dC))] O=.ok (.int (r.broad:Int)) O:=aU (x:=dR r) rfl rfl (r4 r)
 have c1:mSl (aa 0) moN (moS (aj gIx (aa 1) (mC (.int 2)))) [some d,some (dR r),some (.lst (ls.map dL)),some (.lst ((cells ls).map dC)),some (.lst (F.map dC))] O=.ok (.lst ((row.take r.left).map dC)) O:=by
  rw[qQ,v0,aO,yE,aO,qP,q2,aO,qO,aO,hd,uD,Ys,mJ,List.map_take]
 have c2:mSl (aa 0) (moS (aj aN (aj gIx (aa 1) (mC (.int 2))) (aj gIx (aa 1) (mC (.int 4))))) moN [some d,some (dR r),some (.lst (ls.map dL)),some (.lst ((cells ls).map dC)),some (.lst (F.map dC))] O=.ok (.lst ((row.drop (r.left+r.broad)).map dC)) O:=by
  rw[qQ,v0,aO,qP,dj q2 q4,aO,qO,aO,yE,aO,hd,uD,show(r.left:Int)+(r.broad:Int)=((r.left+r.broad:Nat):Int) from rfl,J5,mJ,List.map_drop]
 have ht:=List.length_take_le r.left row
 have hdl:(row.drop (r.left+r.broad)).length<=row.length:=by rw[List.length_drop];omega
 have fin:=Dg (Dg (Dg c1 (y:=cells ls) (b:=aa 3) rfl (by rw[List.length_take];omega)) (y:=F) (b:=aa 4) rfl (by rw[ze,List.length_take];omega)) c2 (by rw[ze,ze,List.length_take];omega);show bx (aB _ (aB _ (aW _)) [some d,some (dR r),some (.lst (ls.map dL)),none,none] O)=_;rw[bD,s1,bB,bD];show bx (gO (aC 4 _ [some d,some (dR r),some (.lst (ls.map dL)),some (.lst ((cells ls).map dC)),none] O) _)=_;rw[s2,bB,gR];refine(congrArg (λr=>bx (iZ r)) fin).trans ?_;unfold dF;rw[hF];rfl
def lineAt(lines:List (List LT))(k:Nat):List LT:=(lines[k]?).getD []
def bO(lines:List (List LT)):D:=.lst (lines.map λl=>.lst (l.map dL))
def drP(r:Rm)(lines:List (List LT)):Nat->List Row->List Row
 | 0,P=>P
 |k+1,P=>(drP r lines k P).set (r.top+k) (dF r (lineAt lines k) (((drP r lines k P)[r.top+k]?).getD []))
theorem pI(r:Rm)(lines:List (List LT)):∀(k:Nat) (P:List Row),(drP r lines k P).length=P.length
 | 0,P=>rfl
 |k+1,P=>by show(List.set _ _ _).length=_;rw[zU,pI r lines k P]
theorem Z4(r:Rm)(ls:List LT)(row:Row)(hc:(cells ls).length<=r.broad)(hr:r.left+r.broad<=row.length):(dF r ls row).length=row.length:=by
 unfold dF;rw[ze,ze,ze,List.length_take,List.length_drop,List.length_replicate];omega
structure Fits(r:Rm)(lines:List (List LT))(w h:Nat):Prop where
 wd:r.left+r.broad<=w
 hg:r.top+r.tall<=h
 w1:w<=100
 h1:h<=100
 ll:∀l∈lines,l.length<=100/\(cells l).length<=r.broad
theorem wj{r:Rm}{lines:List (List LT)}{w h:Nat}(F:Fits r lines w h)(k:Nat):(lineAt lines k).length<=100/\(cells (lineAt lines k)).length<=r.broad:=by
 unfold lineAt
 cases e:lines[k]? with
 |none=>exact⟨Nat.zero_le _,Nat.zero_le _⟩
 |some l=>exact F.ll l (zy e)
theorem Lx{r:Rm}{lines:List (List LT)}{w h:Nat}(F:Fits r lines w h):∀(k:Nat) (P:List Row),k<=r.tall->P.length=h->(∀x∈P,x.length=w)->∀x∈drP r lines k P,x.length=w
 | 0,P,_,_,hw=>hw
 |k+1,P,hk,hh,hw=>λx hx=>by
  have ih:=Lx F k P (by omega) hh hw
  rcases List.mem_or_eq_of_mem_set hx with hx | rfl
  ·exact ih x hx
  ·have hlt:r.top+k<(drP r lines k P).length:=by rw[pI,hh];have:=F.hg;omega
   rw[zg hlt,Option.getD_some];have q:=ih _ (zW hlt);rw[Z4 r _ _ (wj F k).2 (by rw[q];exact F.wd),q]
theorem Z5{lines:List (List LT)}{ρ:az}{O:ao}{k:Nat}(h2:ρ[2]?=some (some (bO lines)))(h4:ρ[4]?=some (some (.int (k:Int)))):mIf (aQ (aj gLt (aa 4) (aX bF (ak (aa 2) au)))) (aj gIx (aa 2) (aa 4)) (bK au) ρ O=.ok (.lst ((lineAt lines k).map dL)) O:=by
 have v2:aa 2 ρ O=.ok (bO lines) O:=by rw[uw,h2]
 have v4:aa 4 ρ O=.ok (.int (k:Int)) O:=by rw[uw,h4]
 have hl:=rZ (l:=lines.map λl=>D.lst (l.map dL)) v2;rw[zd] at hl;rw[uB,Yk v4 hl,aO];unfold lineAt
 by_cases h:k<lines.length
 ·rw[zz (by omega),if_pos rfl,zg h];exact aU v2 v4 (jr (by rw[zl,zg h];rfl))
 ·rw[zo (by omega),if_neg zk,zV (by omega)];rfl
def wk:MS:=aB (aC 5 (mIf (aQ (aj gLt (aa 4) (aX bF (ak (aa 2) au)))) (aj gIx (aa 2) (aa 4)) (bK au)))
  (mq 3 (aj aN (aj gIx (aa 1) (mC (.int 1))) (aa 4)) (mMl (aJ oZ (ak (aj gIx (aa 3) (aj aN (aj gIx (aa 1) (mC (.int 1))) (aa 4))) (ak (aa 1) (ak (aa 5) au))))))
theorem Z6{i:Nat}{mi m:L2.M D}{ρ:az}{O O1:ao}{d:D}{j:Nat}{ds:List D}(h:m ρ O=.ok d O1)(hi:mi ρ O1=.ok (.int (j:Int)) O1)(hr:ρ[i]?=some (some (.lst ds)))(hj:j<ds.length):mq i mi m ρ O=.nx (ρ.set i (some (.lst (ds.set j d)))) O1:=by
 have q:ixN ds.length (j:Int)=some j:=by
  unfold ixN;rw[if_pos (by omega),if_pos (by omega),Int.toNat_natCast]
 unfold mq;rw[h];dsimp only;rw[hi];dsimp only;rw[hr];dsimp only;rw[q]
theorem Pc.set{O:ao}{is:List Nat}{P:List Row}{lo hi k:Nat}(h:Pc O is P lo hi)(r:Row)(hlo:lo<=O.length):Pc (O++[bu r]) (is.set k O.length) (P.set k r) lo (O.length+1):=by
 refine⟨?_,λi hi'=>?_,by rw[ze];exact zb _⟩
 ·rw[List.map_set,List.map_set,(h.app [bu r]).eq];congr 1;rw[zI (zb _),Nat.sub_self];rfl
 ·rcases List.mem_or_eq_of_mem_set hi' with hi' | rfl
  ·have:=h.lo i hi'
   have:=h.hi
   omega
  ·omega
theorem Z7{r:Rm}{lines:List (List LT)}{w h:Nat}(F:Fits r lines w h)(A:D){O:ao}{is:List Nat}{P:List Row}{lo hi:Nat}(hp:Pc O is P lo hi)(hlo:lo<=O.length)(hh:P.length=h)(hw:∀x∈P,x.length=w)(k:Nat)(hk:k<r.tall)(a5:Option D):
  ∃p5,wk [some A,some (dR r),some (bO lines),some (pD is),some (.int (k:Int)),a5] O=.nx [some A,some (dR r),some (bO lines),some (pD (is.set (r.top+k) O.length)),some (.int (k:Int)),p5] (O++[bu (dF r (lineAt lines k) ((P[r.top+k]?).getD []))]):=by
 have hlt:r.top+k<P.length:=by rw[hh];have:=F.hg;omega
 have hil:r.top+k<is.length:=by rw[hp.len];exact hlt
 obtain⟨row,e1,e2⟩:=hp.at (zg hil);have hrw:row.length=w:=hw row (zy e1);obtain⟨l1,l2⟩:=wj F k;have s1:=bQ (i:=5) (Z5 (lines:=lines) (ρ:=[some A,some (dR r),some (bO lines),some (pD is),some (.int (k:Int)),a5]) (O:=O) (k:=k) rfl rfl)
 have ia:∀O',aj aN (aj gIx (aa 1) (mC (.int 1))) (aa 4) [some A,some (dR r),some (bO lines),some (pD is),some (.int (k:Int)),some (.lst ((lineAt lines k).map dL))] O'=.ok (.int ((r.top+k:Nat):Int)) O':=λO'=>by
  rw[jl];exact dj (aU (x:=dR r) rfl rfl (r1 r)) rfl
 have ix:aj gIx (aa 3) (aj aN (aj gIx (aa 1) (mC (.int 1))) (aa 4)) [some A,some (dR r),some (bO lines),some (pD is),some (.int (k:Int)),some (.lst ((lineAt lines k).map dL))] O=.ok (.ob is[r.top+k]) O :=
  aU (x:=pD is) rfl (ia O) (jr (by rw[zl,zg hil];rfl))
 have hF:=F.wd;have hF1:=F.w1
 have cr:aJ oZ (ak (aj gIx (aa 3) (aj aN (aj gIx (aa 1) (mC (.int 1))) (aa 4))) (ak (aa 1) (ak (aa 5) au))) [some A,some (dR r),some (bO lines),some (pD is),some (.int (k:Int)),some (.lst ((lineAt lines k).map dL))] O=.ok (.lst ((dF r (lineAt lines k) row).map dC)) O:=by
  rw[cL (maS ix (maS (x:=dR r) rfl (ma1 (x:=.lst ((lineAt lines k).map dL)) rfl)))];exact Z3 r (lineAt lines k) (by omega) l2 (by omega) row (by omega) (.ob is[r.top+k]) O (jt e2)
 have ml:mMl (aJ oZ (ak (aj gIx (aa 3) (aj aN (aj gIx (aa 1) (mC (.int 1))) (aa 4))) (ak (aa 1) (ak (aa 5) au)))) [some A,some (dR r),some (bO lines),some (pD is),some (.int (k:Int)),some (.lst ((lineAt lines k).map dL))] O=.ok (.ob O.length) (O++[bu (dF r (lineAt lines k) row)]):=by
  unfold mMl;rw[cr,aO];rfl
 have s2:=Z6 (i:=3) (ds:=is.map D.ob) ml (ia _) rfl (by rw[zd];exact hil);refine⟨some (.lst ((lineAt lines k).map dL)),?_⟩;unfold wk;rw[bD,s1,bB];show mq 3 _ _ [some A,some (dR r),some (bO lines),some (pD is),some (.int (k:Int)),some (.lst ((lineAt lines k).map dL))] O=_;rw[s2,e1,Option.getD_some,<-List.map_set];rfl
theorem Ly{r:Rm}{lines:List (List LT)}{w h:Nat}(F:Fits r lines w h){O:ao}{is:List Nat}{P:List Row}{lo hi:Nat}(hp:Pc O is P lo hi)(hh:P.length=h)(hw:∀x∈P,x.length=w):
  ∃(E:ao) (js:List Nat),o7 [pD is,dR r,bO lines] O=.ok (pD js) (O++E)/\Pc (O++E) js (drP r lines r.tall P) O.length (O++E).length:=by
 have hF1:=F.h1;have hF2:=F.hg;have s0:=J0 (i:=3) (CW hp (by rw[hp.len,hh];omega) (m:=aa 0) (ρ:=[some (pD is),some (dR r),some (bO lines),none,none,none]) rfl);obtain⟨ρ1,O1,e1,E,js,p4,p5,rfl,rfl,q⟩:=gj (g:=mgN 4) (b:=wk)
  (λk ρ O'=>∃(E:ao) (js:List Nat) (p4 p5:Option D),O'=O++E/\ρ=[some (pD is),some (dR r),some (bO lines),some (pD js),p4,p5]/\Pc (O++E) js (drP r lines k P) O.length (O++E).length) (cZ 0 r.tall) 0 [some (pD is),some (dR r),some (bO lines),some (pD (ids O.length P.length)),none,none] (O++P.map bu)
  ⟨P.map bu,ids O.length P.length,none,none,rfl,rfl,by have:=ph O P;rw[ze,zd];exact this⟩ (by
   rintro i d ρ O' hi ⟨E,js,p4,p5,rfl,rfl,q⟩;obtain⟨hi5,rfl⟩:=o9 hi;rw[zC] at q ⊢;obtain⟨b5,hB⟩:=Z7 F (pD is) q (by rw[ze];omega) (by rw[pI];exact hh) (Lx F i P (by omega) hh hw) i hi5 p5;refine⟨_,rfl,_,_,.inl hB,E++[_],_,some (.int (i:Int)),b5,zJ _ _ _,rfl,?_⟩;have q2:=q.set (k:=r.top+i) (dF r (lineAt lines i) (((drP r lines i P)[r.top+i]?).getD [])) (by rw[ze];omega);rw[<-zJ,ze (bs:=[_])]
   exact q2)
 rw[lH,zC] at q;refine⟨E,js,?_,q⟩;show bx (aB _ (aB (bY (dB (ak (aj gIx (aa 1) (mC (.int 3))) au)) (mgN 4) wk) (aW (aa 3))) [some (pD is),some (dR r),some (bO lines),none,none,none] O)=_;rw[bD,s0,bB,bD,gf];show bx (gO (yH (dB _ [some (pD is),some (dR r),some (bO lines),some (pD (ids O.length P.length)),none,none] (O++P.map bu)) _ _ [some (pD is),some (dR r),some (bO lines),some (pD (ids O.length P.length)),none,none]) _)=_;rw[lN (n:=r.tall) (aU (x:=dR r) rfl rfl (r3 r)) (by omega),gh,e1,bB];rfl
def gt(c:C):Bool:=match c.1 with
 | [s]=>decide (81<=s/\s<=87)
 | _=>false
inductive Fm:Row->Prop
 | nil:Fm []
 | one {c:C}{r:Row}{s:Nat}:c.1=[s]->gt c=false->Fm r->Fm (c::r)
 | two {c d:C}{r:Row}{s:Nat}:c.1=[s]->gt c=true->d.1=[]->d.2=c.2->Fm r->Fm (c::d::r)
theorem Fm.app{a b:Row}(h:Fm a)(hb:Fm b):Fm (a++b):=by
 induction h with
 |nil=>exact hb
 |one h1 h2 _ ih=>exact .one h1 h2 ih
 |two h1 h2 h3 h4 _ ih=>exact .two h1 h2 h3 h4 ih
theorem Fm.flat:∀{ss:List Row},(∀s∈ss,Fm s)->Fm ss.flatten
 | [],_=>.nil
 |s::ss,h=>by
  rw[List.flatten_cons];exact(h s zr).app (Fm.flat λx hx=>h x (zw _ hx))
theorem Wf.cons{b r:Row}(hb:Bl b)(h:Wf r):Wf (b++r):=by
 obtain⟨bs,h1,rfl⟩:=h;refine⟨b::bs,λx hx=>?_,by rw[List.flatten_cons]⟩
 rcases zm.mp hx with rfl | hx
 ·exact hb
 ·exact h1 x hx
theorem ne1{l:List Nat}{s:Nat}(h:l=[s]):l≠[]:=by
 rw[h]
 exact λz=>nomatch z
theorem Fm.wf{r:Row}(h:Fm r):Wf r:=by
 induction h with
 |nil=>exact YF
 | @one c r s h1 _ _ ih=>exact Wf.cons (b:=[c]) (.inl ⟨c,rfl,ne1 h1⟩) ih
 | @two c d r s h1 _ h3 _ _ ih=>exact Wf.cons (b:=[c,d]) (.inr ⟨c,d,rfl,ne1 h1,h3⟩) ih
theorem Fm.rep:∀n:Nat,Fm (List.replicate n bl)
 | 0=>.nil
 |n+1=>by
  rw[List.replicate_succ];exact .one (s:=32) rfl (by decide) (Fm.rep n)
def bh(r:Row)(k:Nat):Bool:=match r[k+1]? with
 |some d=>decide (d.1=[])
 |none=>false
theorem Fm.hd{r:Row}(h:Fm r):∀c,r[0]?=some c->c.1≠[]:=by
 intro c e
 cases h with
 |nil=>simp at e
 |one h1 _ _=>have e':=zx e;subst e';exact ne1 h1
 |two h1 _ _ _ _=>have e':=zx e;subst e';exact ne1 h1
theorem Lz{r:Row}(h:Fm r)(c:C):bh (c::r) 0=false:=by
 show(match r[0]? with | some d=>decide (d.1=[]) | none=>false)=false
 cases e:r[0]? with
 |none=>rfl
 |some c=>exact zo (h.hd c e)
theorem Fm.loc{r:Row}(h:Fm r):∀(k:Nat) (c:C),r[k]?=some c->gt c=bh r k/\(∀d,r[k+1]?=some d->d.1=[]->d.2=c.2)/\(c.1=[]\/∃s,c.1=[s]):=by
 induction h with
 |nil=>intro k c e;simp at e
 | @one c0 r s h1 h2 hr ih =>
  intro k c e
  cases k with
  |zero =>
   have e':=zx e;subst e';refine⟨?_,λd e1 e2=>absurd e2 (hr.hd d e1),.inr ⟨s,h1⟩⟩;rw[h2,Lz hr]
  |succ k=>exact ih k c e
 | @two c0 d0 r s h1 h2 h3 h4 hr ih =>
  intro k c e
  cases k with
  |zero =>
   have e':=zx e;subst e';refine⟨?_,λd e1 _=>?_,.inr ⟨s,h1⟩⟩
   ·rw[h2];exact(zz h3).symm
   ·have e':=zx e1;subst e';exact h4
  |succ k =>
   cases k with
   |zero =>
    have e':=zx e;subst e';refine⟨?_,λd e1 e2=>absurd e2 (hr.hd d e1),.inl h3⟩
    have g:gt d0=false:=by unfold gt;rw[h3]
    rw[g];exact(Lz hr d0).symm
   |succ k=>exact ih k c e
def Sgs(L:List Nat)(r:Row):Prop:=∃ss:List Row,ss.map List.length=L/\(∀s∈ss,Fm s/\ROk s)/\r=ss.flatten
theorem Sgs.fm{L:List Nat}{r:Row}(h:Sgs L r):Fm r:=by
 obtain⟨ss,_,h2,rfl⟩:=h
 exact Fm.flat λs hs=>(h2 s hs).1
theorem Sgs.rok{L:List Nat}{r:Row}(h:Sgs L r):ROk r:=by
 obtain⟨ss,_,h2,rfl⟩:=h;intro c hc;obtain⟨s,hs,hc⟩:=List.mem_flatten.mp hc;exact(h2 s hs).2 c hc
theorem Sgs.len{L:List Nat}{r:Row}(h:Sgs L r):r.length=L.sum:=by
 obtain⟨ss,h1,_,rfl⟩:=h;rw[List.length_flatten,h1]
theorem Z8(ss:List Row)(i:Nat):ss.flatten.take ((ss.map List.length).take i).sum=(ss.take i).flatten:=by
 have e:ss.flatten=(ss.take i).flatten++(ss.drop i).flatten:=by rw[<-jm,List.take_append_drop]
 rw[e,<-List.map_take,List.take_left' (by rw[List.length_flatten])]
theorem Z9(ss:List Row)(i:Nat):ss.flatten.drop ((ss.map List.length).take i).sum=(ss.drop i).flatten:=by
 have e:ss.flatten=(ss.take i).flatten++(ss.drop i).flatten:=by rw[<-jm,List.take_append_drop]
 rw[e,<-List.map_take,List.drop_left' (by rw[List.length_flatten])]
theorem Sgs.rep:∀(L:List Nat),Sgs L (List.replicate L.sum bl)
 | []=>⟨[],rfl,λs hs=>(nomatch hs),rfl⟩
 |n::L=>by
  obtain⟨ss,h1,h2,h3⟩:=Sgs.rep L;refine⟨List.replicate n bl::ss,?_,λs hs=>?_,?_⟩
  ·rw[zj,List.length_replicate,h1]
  ·rcases zm.mp hs with rfl | hs
   ·exact⟨Fm.rep n,Ka n⟩
   ·exact h2 s hs
  ·rw[List.flatten_cons,<-h3,List.sum_cons,List.replicate_append_replicate]
theorem Sgs.put{L:List Nat}{r n:Row}{i l b:Nat}(h:Sgs L r)(hi:L[i]?=some b)(hl:l=(L.take i).sum)(hn:n.length=b)(f:Fm n)(k:ROk n):Sgs L (r.take l++n++r.drop (l+b)):=by
 obtain⟨ss,h1,h2,rfl⟩:=h
 have hil:i<ss.length:=by
  have:=(zh.mp hi).1
  rw[<-h1,zd] at this;exact this
 have e1:ss.flatten.take l=(ss.take i).flatten:=by rw[hl,<-h1];exact Z8 ss i
 have e2:ss.flatten.drop (l+b)=(ss.drop (i+1)).flatten:=by
  rw[<-Z9 ss (i+1),h1,hl,List.take_succ,hi,List.sum_append];rfl
 refine⟨ss.set i n,?_,λs hs=>?_,?_⟩
 ·rw[List.map_set,h1,hn]
  refine jk λj=>?_
  rw[List.getElem?_set]
  split
  ·rename_i hj;subst hj;rw[hi]
   split
   ·rfl
   ·rename_i hlt;exact absurd (zh.mp hi).1 hlt
  ·rfl
 ·rcases List.mem_or_eq_of_mem_set hs with hs | rfl
  ·exact h2 s hs
  ·exact⟨f,k⟩
 ·rw[e1,e2,List.set_eq_take_append_cons_drop,if_pos hil,jm,List.flatten_cons,zJ]
def sgS:List Nat:=[97,98,99,100,101,102,103,104,32,120,121,122,91,93,46,44,59,32,81,82,83,84,85,86,87]
def qS:List Nat:=[81,82,83,84,85,86,87]
def c1S:List Nat:=[97,98,46]
def c2S:List Nat:=[97,46,46]
def isQ(c:Nat):Bool:=decide (81<=c/\c<=87)
theorem LC(c:Nat):gIn false (.str [c]) (.str qS)=some (.bl (isQ c)):=by
 have e:qS=(List.range 7).map (· + 81):=rfl;rw[Wx,Bool.false_xor,e];unfold isQ;congr 2;refine decide_eq_decide.mpr ?_;rw[zP];constructor
 ·rintro⟨a,h,rfl⟩
  have:=List.mem_range.mp h
  omega
 ·intro h;exact⟨c - 81,List.mem_range.mpr (by omega),by omega⟩
def LOk(x:LT):Prop:=x.1<=125/\x.2.1<=125/\x.2.2.1<=125/\big x.1=isQ x.1
theorem QwD:∀c∈sgS,c<=125/\big c=isQ c:=by decide
theorem Qw8:∀c∈c1S,c<=125:=by decide
theorem Qwu:∀c∈c2S,c<=125:=by decide
theorem LK(x:LT):((tw x).length:Int)=1+(if big x.1 then 1 else 0):=by
 unfold tw
 cases big x.1<;>rfl
def sO:MS:=aB (aC 6 (aj gIx (aa 2) (aj aN (mC (.int 2)) (aa 5))))
  (aB (aC 7 (aj gIx (mC (.str sgS)) (aj bw (aj du (aa 6) (mC (.int 81))) (mC (.int 25)))))
  (aB (aC 8 (aj aN (mC (.int 1)) (aX lD (ak (aj (gIn false) (aa 7) (mC (.str qS))) au))))
  (aB (bz (aQ (aj gLe (aa 8) (aa 3))) (cQ 4 (bU (ak (aa 7) (ak (aj gIx (mC (.str c1S)) (aj bw (aa 6) (mC (.int 3)))) (ak (aj gIx (mC (.str c2S)) (aj bw (aj du (aa 6) (mC (.int 3))) (mC (.int 3)))) (ak (aa 5) au)))))) bI)
  (aC 3 (aj dO (aa 3) (aa 8))))))
def eE(c broad room:Int)(xs:List Int)(ls:List LT)(a5 a6 a7 a8:Option D):az:=[some (.int c),some (.int broad),some (.lst (xs.map D.int)),some (.int room),some (.lst (ls.map dL)),a5,a6,a7,a8]
theorem QsS(c:Int)(broad:Nat)(hb:broad<=100)(xs:List Int)(hx:xs.length=broad+2)(room:Int)(ls:List LT)(k:Nat)(hk:k<broad)(hl:ls.length<=k)(h1:(cells ls).length<=broad)(h2:((cells ls).length:Int)+room<=broad)(hok:∀x∈ls,LOk x)(a6 a7 a8:Option D)(O:ao):
  ∃(ls2:List LT) (room2:Int) (b6 b7 b8:Option D),(∀x∈ls2,LOk x)/\ls2.length<=k+1/\(cells ls2).length<=broad/\((cells ls2).length:Int)+room2<=broad/\sO (eE c broad room xs ls (some (.int (k:Int))) a6 a7 a8) O=.nx (eE c broad room2 xs ls2 (some (.int (k:Int))) b6 b7 b8) O:=by
 have hkx:2+k<xs.length:=by omega
 have s6:aC 6 (aj gIx (aa 2) (aj aN (mC (.int 2)) (aa 5))) (eE c broad room xs ls (some (.int (k:Int))) a6 a7 a8) O=.nx (eE c broad room xs ls (some (.int (k:Int))) (some (.int xs[2+k])) a7 a8) O:=bQ (aU (x:=.lst (xs.map D.int)) (y:=.int ((2+k:Nat):Int)) rfl (by rw[jl];exact dj rfl rfl) (jr (by rw[zl,zg hkx];rfl)))
 generalize xs[2+k]=n at s6
 obtain⟨s,hs,es⟩:=ixS (l:=sgS) (v:=n / 81) (n:=25) (by decide) rfl (by decide);obtain⟨hs1,hs2⟩:=QwD s hs;obtain⟨c4,hc4,e4⟩:=ixS (l:=c1S) (v:=n) (n:=3) (by decide) rfl (by decide);obtain⟨c5,hc5,e5⟩:=ixS (l:=c2S) (v:=n / 3) (n:=3) (by decide) rfl (by decide)
 have dv:∀(j:Int) (r7 r8:Option D),0<j/\j<1073741824->aj du (aa 6) (mC (.int j)) (eE c broad room xs ls (some (.int (k:Int))) (some (.int n)) r7 r8) O=.ok (.int (n / j)) O:=λj r7 r8 hj=>Dd rfl rfl hj
 have s7:aC 7 (aj gIx (mC (.str sgS)) (aj bw (aj du (aa 6) (mC (.int 81))) (mC (.int 25)))) (eE c broad room xs ls (some (.int (k:Int))) (some (.int n)) a7 a8) O=.nx (eE c broad room xs ls (some (.int (k:Int))) (some (.int n)) (some (.str [s])) a8) O:=bQ (aU (x:=.str sgS) rfl (fH (b:=mC (.int 25)) (dv 81 a7 a8 (by decide)) rfl (by decide)) es)
 have sz:aj aN (mC (.int 1)) (aX lD (ak (aj (gIn false) (aa 7) (mC (.str qS))) au)) (eE c broad room xs ls (some (.int (k:Int))) (some (.int n)) (some (.str [s])) a8) O=.ok (.int (1+(if big s then 1 else 0))) O:=by
  rw[hs2];exact dj rfl (gk (xs:=[.bl (isQ s)]) (ma1 (aU (x:=.str [s]) (y:=.str qS) rfl rfl (LC s))) (by rw[zj,zN,jJ,WK]))
 obtain⟨z,hz⟩:∃z:Int,z=1+(if big s then 1 else 0):=⟨_,rfl⟩;rw[<-hz] at sz;have s8:aC 8 (aj aN (mC (.int 1)) (aX lD (ak (aj (gIn false) (aa 7) (mC (.str qS))) au))) (eE c broad room xs ls (some (.int (k:Int))) (some (.int n)) (some (.str [s])) a8) O=.nx (eE c broad room xs ls (some (.int (k:Int))) (some (.int n)) (some (.str [s])) (some (.int z))) O:=bQ sz
 have hz1:1<=z:=by rw[hz];cases big s<;>decide
 have t:=JZ (a:=aa 8) (b:=aa 3) (ρ:=eE c broad room xs ls (some (.int (k:Int))) (some (.int n)) (some (.str [s])) (some (.int z))) (O:=O) (i:=z) (j:=room) rfl rfl
 have s3:∀ls2:List LT,aC 3 (aj dO (aa 3) (aa 8)) (eE c broad room xs ls2 (some (.int (k:Int))) (some (.int n)) (some (.str [s])) (some (.int z))) O=.nx (eE c broad (room - z) xs ls2 (some (.int (k:Int))) (some (.int n)) (some (.str [s])) (some (.int z))) O:=λls2=>bQ (m8 rfl rfl)
 have a4:=kh (i:=4) (m:=bU (ak (aa 7) (ak (aj gIx (mC (.str c1S)) (aj bw (aa 6) (mC (.int 3)))) (ak (aj gIx (mC (.str c2S)) (aj bw (aj du (aa 6) (mC (.int 3))) (mC (.int 3)))) (ak (aa 5) au))))) (ρ:=eE c broad room xs ls (some (.int (k:Int))) (some (.int n)) (some (.str [s])) (some (.int z))) (O:=O) (ds:=ls.map dL) (m7 (maS (x:=.str [s]) rfl (maS (aU (x:=.str c1S) rfl (fH (i:=n) rfl rfl (by decide)) e4) (maS (aU (x:=.str c2S) rfl (fH (b:=mC (.int 3)) (dv 3 _ _ (by decide)) rfl (by decide)) e5) (ma1 (x:=.int (k:Int)) rfl)))) (show(4:Nat)<=1000000 by decide)) rfl (by rw[zd];omega)
 have pre:sO (eE c broad room xs ls (some (.int (k:Int))) a6 a7 a8) O=gO (bz (aQ (aj gLe (aa 8) (aa 3))) (cQ 4 (bU (ak (aa 7) (ak (aj gIx (mC (.str c1S)) (aj bw (aa 6) (mC (.int 3)))) (ak (aj gIx (mC (.str c2S)) (aj bw (aj du (aa 6) (mC (.int 3))) (mC (.int 3)))) (ak (aa 5) au)))))) bI (eE c broad room xs ls (some (.int (k:Int))) (some (.int n)) (some (.str [s])) (some (.int z))) O) (aC 3 (aj dO (aa 3) (aa 8))):=by
  unfold sO;rw[bD,s6,bB,bD,s7,bB,bD,s8,bB,bD]
 by_cases hle:z<=room
 ·refine⟨ls++[(s,c4,c5,(k:Int))],room - z,some (.int n),some (.str [s]),some (.int z),?_,by rw[ze];exact Nat.succ_le_succ hl,?_,?_,?_⟩
  ·intro x hx
   rcases zF.mp hx with hx | hx
   ·exact hok x hx
   ·rw[zp.mp hx];exact⟨hs1,Qw8 _ hc4,Qwu _ hc5,hs2⟩
  ·rw[Dw,ze]
   have:=LK (s,c4,c5,(k:Int))
   rw[<-hz] at this;omega
  ·rw[Dw,ze]
   have:=LK (s,c4,c5,(k:Int))
   rw[<-hz] at this;omega
  ·rw[pre,gn (by rw[t,zz hle]),a4,bB]
   have:=s3 (ls++[(s,c4,c5,(k:Int))])
   unfold eE at this ⊢;rw[zD] at this ⊢;exact this
 ·refine⟨ls,room - z,some (.int n),some (.str [s]),some (.int z),hok,by omega,h1,by omega,?_⟩;rw[pre,dD (by rw[t,zo hle]),iY,bB];exact s3 ls
theorem Quf(c:Int)(broad:Nat)(hb:broad<=100)(O:ao):∃ls:List LT,(∀x∈ls,LOk x)/\ls.length<=broad/\(cells ls).length<=broad/\rP [.int c,.int (broad:Int)] O=.ok (.lst (ls.map dL)) O:=by
 obtain⟨xs,hx,ex⟩:=Yz c (broad+2) (by omega) O
 have s2:aC 2 (aJ vK (ak (aa 0) (ak (aj aN (aa 1) (mC (.int 2))) au))) [some (.int c),some (.int (broad:Int)),none,none,none,none,none,none,none] O=.nx [some (.int c),some (.int (broad:Int)),some (.lst (xs.map D.int)),none,none,none,none,none,none] O:=bQ (by
  rw[cL (maS (x:=.int c) rfl (ma1 (dj (i:=(broad:Int)) (j:=2) rfl rfl)))]
  exact ex)
 have q0:∃x0,aj gIx (aa 2) (mC (.int 0)) [some (.int c),some (.int (broad:Int)),some (.lst (xs.map D.int)),none,none,none,none,none,none] O=.ok (.int x0) O:=⟨xs[0]'(by omega),aU (x:=.lst (xs.map D.int)) (y:=.int ((0:Nat):Int)) rfl rfl (jr (by rw[zl,zg (by omega)];rfl))⟩;have q1:∃x1,aj gIx (aa 2) (mC (.int 1)) [some (.int c),some (.int (broad:Int)),some (.lst (xs.map D.int)),none,none,none,none,none,none] O=.ok (.int x1) O:=⟨xs[1]'(by omega),aU (x:=.lst (xs.map D.int)) (y:=.int ((1:Nat):Int)) rfl rfl (jr (by rw[zl,zg (by omega)];rfl))⟩;obtain⟨x0,e0⟩:=q0;obtain⟨x1,e1⟩:=q1
 have m0:=fH e0 (dj (a:=aa 1) (b:=mC (.int 1)) (i:=(broad:Int)) (j:=1) rfl rfl) (by omega);have m1:=fH (b:=mC (.int 2)) (j:=2) e1 rfl (by decide);have g0:=ja x0 (show(broad:Int)+1≠0 by omega);have g1:=jd x0 (show(0:Int)<(broad:Int)+1 by omega);have g2:=ja x1 (show(2:Int)≠0 by decide);have gm:=lG (i:=x0 % ((broad:Int)+1)) (j:=x1 % 2) (.inl ⟨by omega,by omega⟩);have s3:=bQ (i:=3) (m8 (a:=aa 1) (i:=(broad:Int)) rfl (aU m0 m1 gm));have hrm:x0 % ((broad:Int)+1) * (x1 % 2)>=0:=Int.mul_nonneg g0 g2;obtain⟨room,hroom⟩:∃room,room=(broad:Int) - x0 % ((broad:Int)+1) * (x1 % 2):=⟨_,rfl⟩
 rw[<-hroom] at s3;obtain⟨ρ1,O1,el,hO1,ls,rm,p7,p8,p9,p10,rfl,k1,k2,k3,k4⟩:=gj (g:=mgN 5) (b:=sO)
  (λi ρ O'=>O'=O/\∃(ls:List LT) (rm:Int) (p7 p8 p9 p10:Option D),ρ=eE c broad rm xs ls p7 p8 p9 p10/\ls.length<=i/\(cells ls).length<=broad/\((cells ls).length:Int)+rm<=broad/\∀x∈ls,LOk x) (cZ 0 broad) 0 (eE c broad room xs [] none none none none) O ⟨rfl,[],room,none,none,none,none,rfl,zb _,Nat.zero_le _,by show(0:Int)+room<=broad;omega,λx hx=>(nomatch hx)⟩ (by
   rintro i d ρ O' hi ⟨hO',ls,rm,p7,p8,p9,p10,rfl,k1,k2,k3,k4⟩;obtain⟨hi5,rfl⟩:=o9 hi;rw[zC] at k1;obtain⟨ls2,rm2,b8,b9,b10,z0,z1,z2,z3,z4⟩:=QsS c broad hb xs hx rm ls i hi5 k1 k2 k3 k4 p8 p9 p10 O'
   exact⟨_,rfl,_,_,.inl z4,hO',ls2,rm2,some (.int (i:Int)),b8,b9,b10,rfl,by omega,z2,z3,z0⟩)
 rw[hO1] at el;rw[lH,zC] at k1;refine⟨ls,k4,k1,k2,?_⟩;show bx (aB _ (aB _ (aB (aC 4 (bK au)) (aB (bY (dB (ak (aa 1) au)) (mgN 5) sO) (aW (aa 4))))) [some (.int c),some (.int (broad:Int)),none,none,none,none,none,none,none] O)=_;rw[bD,s2,bB,bD];rw[s3,bB,bD];show bx (gO (.nx (eE c broad room xs [] none none none none) O) _)=_;rw[bB,bD,gf,lN (m:=aa 1) (n:=broad) rfl (by omega),gh,el,bB];rfl
theorem Qwa{x:LT}(h:LOk x):Fm (tw x):=by
 have hb:=h.2.2.2;unfold tw
 cases hq:big x.1 with
 |false =>
  rw[if_neg zk];rw[hq] at hb;exact .one (s:=x.1) rfl hb.symm .nil
 |true =>
  rw[if_pos rfl];rw[hq] at hb;exact .two (s:=x.1) rfl hb.symm rfl rfl .nil
theorem Qut{x:LT}(h:LOk x):ink x<=125:=by
 unfold ink
 split
 ·decide
 ·exact h.2.1
theorem Qwf{x:LT}(h:LOk x):ROk (tw x):=λc hc=>by
 have k1:NOk [ink x]:=pB (by have:=Qut h;omega);have k2:NOk [x.2.2.1]:=pB (by have:=h.2.2.1;omega);unfold tw at hc
 rcases zm.mp hc with rfl | hc
 ·exact⟨pB (by have:=h.1;omega),k1,k2⟩
 ·split at hc
  ·rw[zp.mp hc];exact⟨YC,k1,k2⟩
  ·exact nomatch hc
theorem Qqx{ls:List LT}(h:∀x∈ls,LOk x):Fm (cells ls)/\ROk (cells ls):=by
 refine⟨Fm.flat λs hs=>?_,λc hc=>?_⟩
 ·obtain⟨x,hx,rfl⟩:=zP.mp hs;exact Qwa (h x hx)
 ·obtain⟨s,hs,hc⟩:=List.mem_flatten.mp hc;obtain⟨x,hx,rfl⟩:=zP.mp hs;exact Qwf (h x hx) c hc
structure Rs(rs:List Rm)(left w h:Nat):Prop where
 sum:(rs.map Rm.broad).sum=left
 le:left<=w
 at':∀(i:Nat) (r:Rm),rs[i]?=some r->r.left=((rs.map Rm.broad).take i).sum/\r.left+r.broad<=w/\r.top+r.tall<=h
theorem Rs.snoc{rs:List Rm}{left w h:Nat}(R:Rs rs left w h){r:Rm}(h1:r.left=left)(h2:left+r.broad<=w)(h3:r.top+r.tall<=h):Rs (rs++[r]) (left+r.broad) w h:=by
 refine⟨?_,h2,λi x hx=>?_⟩
 ·rw[zD,List.sum_append,R.sum];simp
 ·by_cases hi:i<rs.length
  ·rw[zv hi] at hx;rw[zD,List.take_append_of_le_length (by rw[zd];omega)];exact R.at' i x hx
  ·rw[zI (by omega)] at hx
   have h0:i - rs.length=0:=by
    have:=(zh.mp hx).1
    simp at this
    omega
   rw[h0] at hx;have hx':=zx hx;subst hx';rw[show i=(rs.map Rm.broad).length by rw[zd];omega,zD,List.take_left' rfl,R.sum];exact⟨h1,by omega,h3⟩
def sS:MS:=aB (aC 6 (aJ d9 (ak (aa 0) (ak (aj aN (mC (.int 1)) (aa 5)) au))))
  (bz (aQ (aj gLe (aj aN (aa 4) (mC (.int 2))) (aa 2))) (aB (aC 7 (aj bw (aJ dW (ak (aa 6) (ak (mC (.int 2)) au))) (aa 1)))
  (aB (aC 8 (aj aN (mC (.int 2)) (aj bw (aJ dW (ak (aa 6) (ak (mC (.int 4)) au))) (aj dO (aj dO (aa 2) (aa 4)) (mC (.int 1))))))
  (aB (cQ 3 (bU (ak (aj gIx (mC (.str [97,98,99])) (aa 5)) (ak (aa 7) (ak (aa 4) (ak (aj aN (mC (.int 1)) (aj bw (aJ dW (ak (aa 6) (ak (mC (.int 3)) au))) (aj dO (aa 1) (aa 7)))) (ak (aa 8) (ak (mC (.str [99,101,108,108,115])) au))))))))
  (aC 4 (aj aN (aa 4) (aa 8)))))) bI)
theorem QuI(k:Nat)(hk:k<3):∃c,c<1114112/\gIx (.str [97,98,99]) (.int (k:Int))=some (.str [c]):=by
 rcases(show k=0\/k=1\/k=2 by omega) with rfl | rfl | rfl
 ·exact⟨97,by decide,rfl⟩
 ·exact⟨98,by decide,rfl⟩
 ·exact⟨99,by decide,rfl⟩
def eM(X:D)(h w:Nat)(rs:List Rm)(left:Nat)(a5 a6 a7 a8:Option D):az:=[some X,some (.int (h:Int)),some (.int (w:Int)),some (.lst (rs.map dR)),some (.int (left:Int)),a5,a6,a7,a8]
theorem QsE(xs:List Int)(h w:Nat)(h1:1<=h)(w2:2<=w)(rs:List Rm)(hl:rs.length<=10)(left:Nat)(R:Rs rs left w h)(k:Nat)(hk:k<3)(a6 a7 a8:Option D)(O:ao):
  ∃(rs2:List Rm) (left2:Nat) (b6 b7 b8:Option D),Rs rs2 left2 w h/\0<rs2.length/\rs2.length<=rs.length+1/\sS (eM (.lst (xs.map D.int)) h w rs left (some (.int (k:Int))) a6 a7 a8) O=.nx (eM (.lst (xs.map D.int)) h w rs2 left2 (some (.int (k:Int))) b6 b7 b8) O:=by
 obtain⟨X,hX⟩:∃X,X=D.lst (xs.map D.int):=⟨_,rfl⟩;rw[<-hX];obtain⟨v,ev⟩:=vU xs (a:=aa 0) (b:=aj aN (mC (.int 1)) (aa 5)) (ρ:=eM X h w rs left (some (.int (k:Int))) a6 a7 a8) (O:=O) (k:=1+(k:Int)) (by rw[hX];rfl) (dj rfl rfl) (by omega) (by omega);have s6:aC 6 (aJ d9 (ak (aa 0) (ak (aj aN (mC (.int 1)) (aa 5)) au))) (eM X h w rs left (some (.int (k:Int))) a6 a7 a8) O=.nx (eM X h w rs left (some (.int (k:Int))) (some (.int v)) a7 a8) O:=bQ ev;have t:=JZ (a:=aj aN (aa 4) (mC (.int 2))) (b:=aa 2) (ρ:=eM X h w rs left (some (.int (k:Int))) (some (.int v)) a7 a8) (O:=O) (i:=(left:Int)+2) (j:=(w:Int)) (dj rfl rfl) rfl
 by_cases hle:(left:Int)+2<=(w:Int)
 ·have q7:=m9 v 2 (h:Int) (by omega);obtain⟨top,ht⟩:∃top:Nat,mix v 2 % (h:Int)=(top:Int):=⟨_,(Int.toNat_of_nonneg q7.1).symm⟩;have q8:=m9 v 3 ((h:Int) - (top:Int)) (by omega);obtain⟨tall,hta⟩:∃tall:Nat,1+mix v 3 % ((h:Int) - (top:Int))=(tall:Int):=⟨_,(Int.toNat_of_nonneg (by omega)).symm⟩;have q9:=m9 v 4 ((w:Int) - (left:Int) - 1) (by omega);obtain⟨broad,hbr⟩:∃broad:Nat,2+mix v 4 % ((w:Int) - (left:Int) - 1)=(broad:Int):=⟨_,(Int.toNat_of_nonneg (by omega)).symm⟩;obtain⟨ch,hch,ech⟩:=QuI k hk
  have s7:aC 7 (aj bw (aJ dW (ak (aa 6) (ak (mC (.int 2)) au))) (aa 1)) (eM X h w rs left (some (.int (k:Int))) (some (.int v)) a7 a8) O=.nx (eM X h w rs left (some (.int (k:Int))) (some (.int v)) (some (.int (top:Int))) a8) O:=by
   rw[<-ht];exact bQ (fH (lO (c:=v) rfl rfl (by decide) (by decide)) rfl (by omega))
  have s8:aC 8 (aj aN (mC (.int 2)) (aj bw (aJ dW (ak (aa 6) (ak (mC (.int 4)) au))) (aj dO (aj dO (aa 2) (aa 4)) (mC (.int 1))))) (eM X h w rs left (some (.int (k:Int))) (some (.int v)) (some (.int (top:Int))) a8) O=.nx (eM X h w rs left (some (.int (k:Int))) (some (.int v)) (some (.int (top:Int))) (some (.int (broad:Int)))) O:=by
   rw[<-hbr];exact bQ (dj rfl (fH (lO (c:=v) rfl rfl (by decide) (by decide)) (m8 (j:=1) (m8 (i:=(w:Int)) (j:=(left:Int)) rfl rfl) rfl) (by omega)))
  have ta:aj aN (mC (.int 1)) (aj bw (aJ dW (ak (aa 6) (ak (mC (.int 3)) au))) (aj dO (aa 1) (aa 7))) (eM X h w rs left (some (.int (k:Int))) (some (.int v)) (some (.int (top:Int))) (some (.int (broad:Int)))) O=.ok (.int (tall:Int)) O:=by
   rw[<-hta];exact dj rfl (fH (lO (c:=v) rfl rfl (by decide) (by decide)) (m8 (i:=(h:Int)) (j:=(top:Int)) rfl rfl) (by omega))
  have nm:aj gIx (mC (.str [97,98,99])) (aa 5) (eM X h w rs left (some (.int (k:Int))) (some (.int v)) (some (.int (top:Int))) (some (.int (broad:Int)))) O=.ok (.str [ch]) O:=aU (x:=.str [97,98,99]) (y:=.int (k:Int)) rfl rfl ech;have s3:=kh (i:=3) (ds:=rs.map dR) (m7 (maS nm (maS (a:=aa 7) (x:=.int (top:Int)) rfl (maS (a:=aa 4) (x:=.int (left:Int)) rfl (maS ta (maS (a:=aa 8) (x:=.int (broad:Int)) rfl (ma1 (a:=mC (.str [99,101,108,108,115])) (x:=.str [99,101,108,108,115]) rfl)))))) (show(6:Nat)<=1000000 by decide)) rfl (by rw[zd];omega)
  have s4:aC 4 (aj aN (aa 4) (aa 8)) (eM X h w (rs++[Rm.mk [ch] top left tall broad [99,101,108,108,115]]) left (some (.int (k:Int))) (some (.int v)) (some (.int (top:Int))) (some (.int (broad:Int)))) O=.nx (eM X h w (rs++[Rm.mk [ch] top left tall broad [99,101,108,108,115]]) (left+broad) (some (.int (k:Int))) (some (.int v)) (some (.int (top:Int))) (some (.int (broad:Int)))) O:=by
   refine(bQ (dj (i:=(left:Int)) (j:=(broad:Int)) rfl rfl)).trans ?_;rw[<-jl];rfl
  refine⟨rs++[Rm.mk [ch] top left tall broad [99,101,108,108,115]],left+broad,some (.int v),some (.int (top:Int)),some (.int (broad:Int)),R.snoc (r:=Rm.mk [ch] top left tall broad [99,101,108,108,115]) rfl (by show left+broad<=w;omega) (by show top+tall<=h;omega),by rw[ze];exact Nat.succ_pos _,by rw[ze];exact zb _,?_⟩;unfold sS;rw[sq s6,gn (by rw[t,zz hle]),sq s7,sq s8,sq s3];unfold eM at s4 ⊢;rw[zD] at s4 ⊢;exact s4
 ·refine⟨rs,left,some (.int v),a7,a8,R,?_,by omega,?_⟩
  ·rcases rs with _ | ⟨r,rs⟩
   ·have:=R.sum
    simp at this
    omega
   ·exact Nat.succ_pos _
  ·unfold sS;rw[sq s6,dD (by rw[t,zo hle])];rfl
theorem QsP(xs:List Int)(h w:Nat)(h1:1<=h)(w2:2<=w)(O:ao):∃(rs:List Rm) (left:Nat),Rs rs left w h/\0<rs.length/\rs.length<=3/\vJ [.lst (xs.map D.int),.int (h:Int),.int (w:Int)] O=.ok (.lst (rs.map dR)) O:=by
 obtain⟨X,hX⟩:∃X,X=D.lst (xs.map D.int):=⟨_,rfl⟩;rw[<-hX];obtain⟨ρ1,O1,e1,hO1,rs,left,p5,p6,p7,p8,rfl,q1,q2,q3⟩:=gj (g:=mgN 5) (b:=sS)
  (λk ρ O'=>O'=O/\∃(rs:List Rm) (left:Nat) (p5 p6 p7 p8:Option D),ρ=eM X h w rs left p5 p6 p7 p8/\rs.length<=k/\Rs rs left w h/\(0<k->0<rs.length)) (cZ 0 3) 0 (eM X h w [] 0 none none none none) O ⟨rfl,[],0,none,none,none,none,rfl,zb _,⟨rfl,Nat.zero_le _,λi r hr=>by simp at hr⟩,λz=>absurd z (zL _)⟩ (by
   rintro i d ρ O' hi ⟨hO',rs,left,p5,p6,p7,p8,rfl,q1,q2,q3⟩;obtain⟨hi5,rfl⟩:=o9 hi;obtain⟨rs2,left2,b6,b7,b8,g1,g2,g3,g4⟩:=QsE xs h w h1 w2 rs (by omega) left q2 i hi5 p6 p7 p8 O';rw[<-hX] at g4
   exact⟨_,rfl,_,_,.inl g4,hO',rs2,left2,some (.int (i:Int)),b6,b7,b8,rfl,by omega,g1,λ_=>g2⟩)
 rw[hO1] at e1;rw[lH,zC] at q1 q3;refine⟨rs,left,q2,q3 (by decide),q1,?_⟩;show bx (aB (aC 3 (bK au)) (aB (aC 4 (mC (.int 0))) (aB (bY (dB (ak (mC (.int 3)) au)) (mgN 5) sS) (aW (aa 3)))) [some X,some (.int (h:Int)),some (.int (w:Int)),none,none,none,none,none,none] O)=_;rw[sq (show aC 3 (bK au) [some X,some (.int (h:Int)),some (.int (w:Int)),none,none,none,none,none,none] O=.nx [some X,some (.int (h:Int)),some (.int (w:Int)),some (.lst []),none,none,none,none,none] O from rfl),sq (show aC 4 (mC (.int 0)) [some X,some (.int (h:Int)),some (.int (w:Int)),some (.lst []),none,none,none,none,none] O=.nx (eM X h w [] 0 none none none none) O from rfl),bD,gf,lN (n:=3) rfl (by decide),gh,e1,bB]
 rfl
theorem Qrl{L:List Nat}{r:Rm}{i:Nat}{ls:List LT}{row:Row}(h:Sgs L row)(hi:L[i]?=some r.broad)(hl:r.left=(L.take i).sum)(hc:(cells ls).length<=r.broad)(ok:∀x∈ls,LOk x):Sgs L (dF r ls row):=by
 have e:dF r ls row=row.take r.left++(cells ls++List.replicate (r.broad - (cells ls).length) bl)++row.drop (r.left+r.broad):=by
  unfold dF;simp only[zJ]
 rw[e];obtain⟨f,k⟩:=Qqx ok;exact h.put hi hl (by rw[ze,List.length_replicate];omega) (f.app (Fm.rep _)) (YG k (Ka _))
theorem Qpo(r:Rm)(ls:List LT)(row:Row)(hc:(cells ls).length<=r.broad)(hr:r.left+r.broad<=row.length):dF r ls (dF r ls row)=dF r ls row:=by
 have e:dF r ls row=row.take r.left++((cells ls++List.replicate (r.broad - (cells ls).length) bl)++row.drop (r.left+r.broad)):=by
  unfold dF;simp only[zJ]
 have l1:(row.take r.left).length=r.left:=by rw[List.length_take];omega
 have t:(dF r ls row).take r.left=row.take r.left:=by rw[e,List.take_left' l1]
 have d:(dF r ls row).drop (r.left+r.broad)=row.drop (r.left+r.broad):=by rw[e,<-zJ,List.drop_left' (by rw[ze,ze,List.length_replicate,l1];omega)]
 show(dF r ls row).take r.left++cells ls++_++(dF r ls row).drop (r.left+r.broad)=_;rw[t,d];rfl
theorem wu(r:Rm)(lines:List (List LT)):∀(k:Nat) (P:List Row) (j:Nat),r.top+k<=P.length->(drP r lines k P)[j]?=if r.top<=j/\j<r.top+k then some (dF r (lineAt lines (j - r.top)) ((P[j]?).getD [])) else P[j]?
 | 0,P,j,_=>by
  rw[if_neg (by omega)];rfl
 |k+1,P,j,h=>by
  have ih:=wu r lines k P;show((drP r lines k P).set (r.top+k) (dF r (lineAt lines k) (((drP r lines k P)[r.top+k]?).getD [])))[j]?=_
  by_cases hj:j=r.top+k
  ·subst hj;rw[zO (by rw[pI];omega),ih _ (by omega),if_neg (by omega),if_pos (by omega),Nat.add_sub_cancel_left]
  ·rw[zt (λz=>hj z.symm),ih _ (by omega)]
   by_cases hc:r.top<=j/\j<r.top+k
   ·rw[if_pos hc,if_pos (by omega)]
   ·rw[if_neg hc,if_neg (by omega)]
theorem Qq5{r:Rm}{lines:List (List LT)}{w h:Nat}(F:Fits r lines w h){P:List Row}(hh:P.length=h)(hw:∀x∈P,x.length=w):drP r lines r.tall (drP r lines r.tall P)=drP r lines r.tall P:=by
 have hg:=F.hg
 refine jk λj=>?_
 rw[wu r lines r.tall _ j (by rw[pI];omega)]
 by_cases hc:r.top<=j/\j<r.top+r.tall
 ·rw[if_pos hc,wu r lines r.tall P j (by omega),if_pos hc,Option.getD_some];have hjP:P[j]?=some (P[j]'(by omega)):=zg _;rw[hjP,Option.getD_some,Qpo r _ _ (wj F _).2 (by rw[hw _ (zW _)];exact F.wd)]
 ·rw[if_neg hc]
structure SP(L:List Nat)(P:List Row)(h:Nat):Prop where
 len:P.length=h
 row:∀x∈P,Sgs L x
theorem SP.pic{L:List Nat}{P:List Row}{h w:Nat}(s:SP L P h)(hL:L.sum=w):Pic P h w:=⟨s.len,λr hr=>by rw[(s.row r hr).len,hL],λr hr=>(s.row r hr).rok,λr hr=>(s.row r hr).fm.wf⟩
theorem SP.draw{L:List Nat}{P:List Row}{h w i:Nat}{r:Rm}{lines:List (List LT)}(s:SP L P h)(F:Fits r lines w h)(hi:L[i]?=some r.broad)(hl:r.left=(L.take i).sum)(ok:∀l∈lines,∀x∈l,LOk x):SP L (drP r lines r.tall P) h:=by
 refine⟨by rw[pI];exact s.len,?_⟩
 have okL:∀k,∀x∈lineAt lines k,LOk x:=λk x hx=>by
  unfold lineAt at hx
  cases e:lines[k]? with
  |none=>rw[e] at hx;exact nomatch hx
  |some l=>rw[e] at hx;exact ok l (zy e) x hx
 have hg:=F.hg;have hP:=s.len;intro x hx;obtain⟨j,hj⟩:=List.getElem?_of_mem hx;rw[wu r lines r.tall P j (by omega)] at hj
 by_cases hc:r.top<=j/\j<r.top+r.tall
 ·rw[if_pos hc] at hj;have hj':=zx hj;subst hj';have hjP:P[j]?=some (P[j]'(by omega)):=zg _;rw[hjP,Option.getD_some];exact Qrl (s.row _ (zW _)) hi hl (wj F _).2 (okL _)
 ·rw[if_neg hc] at hj;exact s.row x (zy hj)
theorem QwP{i j:List D}:gNe (.tup i) (.tup j)=if(okE (.tup i)&&okE (.tup j))=true then some (.bl (!dz (.tup i) (.tup j))) else none:=rfl
theorem Qwo{a b:List Nat}(ha:NOk a)(hb:NOk b):okE (.tup [.str a,.str b])=true:=by
 have z:(toP (.tup [.str a,.str b])).canLay0=true:=by
  show((PyData.str (S a)).canLay0&&((PyData.str (S b)).canLay0&&true))=true;rw[qT ha,qT hb];rfl
 unfold okE okD;rw[show dw (.tup [.str a,.str b])=true from rfl,z];rfl
theorem wy{mr mi:L2.M D}{ρ:az}{O:ao}{d:D}{row:Row}{k:Nat}{c:C}(h0:mr ρ O=.ok d O)(hd:aZ O d=.lst (row.map dC))(hi:mi ρ O=.ok (.int (k:Int)) O)(hk:row[k]?=some c):aj gIx mr mi ρ O=.ok (dC c) O :=
 aU h0 hi (by rw[hd,mK];exact jr (by rw[zl,hk];rfl))
theorem wz{m:L2.M D}{ρ:az}{O:ao}{c:C}(h:m ρ O=.ok (dC c) O):aj gIx m (mC (.int 0)) ρ O=.ok (.str c.1) O:=aU (x:=dC c) (y:=.int 0) h rfl rfl
theorem LQ{m:L2.M D}{ρ:az}{O:ao}{c:C}(h:m ρ O=.ok (dC c) O):mSl m (moS (mC (.int 1))) moN ρ O=.ok (.tup [.str c.2.1,.str c.2.2]) O:=by
 rw[qQ,h,aO,qP,show mC (.int 1) ρ O=.ok (.int 1) O from rfl,aO,qO,aO,yE,aO];rfl
def eF(A:D)(i:Nat)(a2 a3 a4:Option D):az:=[some A,some (.ob i),a2,a3,a4]
def F3:MS:=aC 3 (ik (aj gLt (aj aN (aa 2) (mC (.int 1))) (aX bF (ak (aa 1) au))) (aj gEq (aj gIx (aj gIx (aa 1) (aj aN (aa 2) (mC (.int 1)))) (mC (.int 0))) (mC (.str []))))
def F4:MS:=aC 4 (ik (aj gNe (aj gIx (aj gIx (aa 1) (aa 2)) (mC (.int 0))) (mC (.str []))) (aj (gIn false) (aj gIx (aj gIx (aa 1) (aa 2)) (mC (.int 0))) (mC (.str qS))))
def F5:MS:=bz (fL (aQ (aj gNe (aa 4) (aa 3))) (lg (bZ (aa 3)) (aQ (aj gNe (mSl (aj gIx (aa 1) (aj aN (aa 2) (mC (.int 1)))) (moS (mC (.int 1))) moN) (mSl (aj gIx (aa 1) (aa 2)) (moS (mC (.int 1))) moN))))) (aW (mC (.bl false))) bI
def wA:MS:=aB F3 (aB F4 F5)
theorem Qxf(A:D){O:ao}{i k:Nat}{row:Row}{c:C}(hO:O[i]?=some (bu row))(hk:row[k]?=some c)(f:Fm row)(ok:ROk row)(a3 a4:Option D):wA (eF A i (some (.int (k:Int))) a3 a4) O=.nx (eF A i (some (.int (k:Int))) (some (.bl (bh row k))) (some (.bl (gt c)))) O:=by
 have hd:aZ O (.ob i)=.lst (row.map dC):=jt hO;obtain⟨l1,l2,l3⟩:=f.loc k c hk;have kl:=(zh.mp hk).1
 have a1:∀a3 a4,aj aN (aa 2) (mC (.int 1)) (eF A i (some (.int (k:Int))) a3 a4) O=.ok (.int ((k+1:Nat):Int)) O:=λa3 a4=>by
  rw[jl];exact dj rfl rfl
 have l0:aX bF (ak (aa 1) au) (eF A i (some (.int (k:Int))) a3 a4) O=.ok (.int (row.length:Int)) O:=by
  have:=gk (g:=bF) (m:=ak (aa 1) au) (ρ:=eF A i (some (.int (k:Int))) a3 a4) (O:=O) (xs:=[.ob i]) (z:=.int ((row.map dC).length:Int)) (ma1 rfl) (by rw[zj,zN,hd];rfl)
  rw[zd] at this;exact this
 have b1:aj gLt (aj aN (aa 2) (mC (.int 1))) (aX bF (ak (aa 1) au)) (eF A i (some (.int (k:Int))) a3 a4) O=.ok (.bl (decide (((k+1:Nat):Int)<(row.length:Int)))) O:=aU (a1 a3 a4) l0 rfl
 have s3:F3 (eF A i (some (.int (k:Int))) a3 a4) O=.nx (eF A i (some (.int (k:Int))) (some (.bl (bh row k))) a4) O:=by
  refine bQ ?_;rw[yC,b1,aO,yz];unfold bh
  cases hx:row[k+1]? with
  |none =>
   have:=List.getElem?_eq_none_iff.mp hx
   rw[zo (by omega),if_neg zk]
  |some d =>
   have:=(zh.mp hx).1
   rw[zz (by omega),if_pos rfl];exact aU (wz (wy (d:=.ob i) rfl hd (a1 a3 a4) hx)) rfl uG
 have cc:∀a3 a4,aj gIx (aa 1) (aa 2) (eF A i (some (.int (k:Int))) a3 a4) O=.ok (dC c) O:=λa3 a4=>wy (d:=.ob i) rfl hd rfl hk
 have s4:F4 (eF A i (some (.int (k:Int))) (some (.bl (bh row k))) a4) O=.nx (eF A i (some (.int (k:Int))) (some (.bl (bh row k))) (some (.bl (gt c)))) O:=by
  refine bQ ?_;have n1:aj gNe (aj gIx (aj gIx (aa 1) (aa 2)) (mC (.int 0))) (mC (.str [])) (eF A i (some (.int (k:Int))) (some (.bl (bh row k))) a4) O=.ok (.bl (!decide (c.1=[]))) O:=aU (wz (cc _ _)) rfl Ib;rw[yC,n1,aO,yz]
  rcases l3 with h | ⟨s,h⟩
  ·have g:gt c=false:=by unfold gt;rw[h]
   rw[g,zz h];rfl
  ·have g:gt c=isQ s:=by unfold gt;rw[h];rfl
   rw[g,zo (by rw[h];exact λz=>nomatch z),Bool.not_false,if_pos rfl];refine aU (wz (cc _ _)) rfl ?_;rw[h];exact LC s
 have s5:F5 (eF A i (some (.int (k:Int))) (some (.bl (bh row k))) (some (.bl (gt c)))) O=.nx (eF A i (some (.int (k:Int))) (some (.bl (bh row k))) (some (.bl (gt c)))) O:=by
  have t1:aQ (aj gNe (aa 4) (aa 3)) (eF A i (some (.int (k:Int))) (some (.bl (bh row k))) (some (.bl (gt c)))) O=.ok false O:=fX (aU (x:=.bl (gt c)) (y:=.bl (bh row k)) rfl rfl (by rw[jJ,jJ,Ie,l1,zz rfl];rfl));have t2:bZ (aa 3) (eF A i (some (.int (k:Int))) (some (.bl (bh row k))) (some (.bl (gt c)))) O=.ok (bh row k) O:=sr rfl;unfold F5;refine dD (or_f t1 ?_);rw[uy,t2,aO]
  cases hb:bh row k with
  |false=>rfl
  |true =>
   rw[if_pos rfl];unfold bh at hb
   cases hx:row[k+1]? with
   |none=>rw[hx] at hb;cases hb
   |some d =>
    rw[hx] at hb;have hd1:d.1=[]:=jn hb;have hd2:=l2 d hx hd1;have okc:=ok c (zy hk);have okt:=Qwo okc.2.1 okc.2.2;refine fX (aU (LQ (wy (d:=.ob i) rfl hd (a1 _ _) hx)) (LQ (cc _ _)) ?_);rw[hd2];show gNe (.tup _) (.tup _)=_;rw[QwP,okt,Bool.and_self,if_pos rfl,qU okt];rfl
 unfold wA;rw[sq s3,sq s4,s5]
def wB:MS:=aB (bY (dB (ak (aX bF (ak (aa 1) au)) au)) (mgN 2) wA) (bz (aQ (aj gEq (aj gIx (aj gIx (aa 1) (mC (.int 0))) (mC (.int 0))) (mC (.str [])))) (aW (mC (.bl false))) bI)
theorem Qwg(A:D){O:ao}{i:Nat}{row:Row}(hO:O[i]?=some (bu row))(f:Fm row)(ok:ROk row)(h0:0<row.length)(hl:row.length<=1000)(a2 a3 a4:Option D):∃b2 b3 b4,wB (eF A i a2 a3 a4) O=.nx (eF A i b2 b3 b4) O:=by
 have hd:aZ O (.ob i)=.lst (row.map dC):=jt hO
 have l0:aX bF (ak (aa 1) au) (eF A i a2 a3 a4) O=.ok (.int (row.length:Int)) O:=by
  have:=gk (g:=bF) (m:=ak (aa 1) au) (ρ:=eF A i a2 a3 a4) (O:=O) (xs:=[.ob i]) (z:=.int ((row.map dC).length:Int)) (ma1 rfl) (by rw[zj,zN,hd];rfl)
  rw[zd] at this;exact this
 obtain⟨ρ1,O1,e1,hO1,b2,b3,b4,rfl⟩:=gj (g:=mgN 2) (b:=wA) (λ_ ρ O'=>O'=O/\∃b2 b3 b4,ρ=eF A i b2 b3 b4) (cZ 0 row.length) 0 (eF A i a2 a3 a4) O ⟨rfl,_,_,_,rfl⟩ (by
  rintro k d ρ O' hk ⟨rfl,b2,b3,b4,rfl⟩;obtain⟨hk5,rfl⟩:=o9 hk
  exact⟨_,rfl,_,_,.inl (Qxf A hO (zg hk5) f ok b3 b4),rfl,_,_,_,rfl⟩)
 subst hO1;refine⟨b2,b3,b4,?_⟩;have z:row[0]?=some (row[0]'h0):=zg _
 have t:aQ (aj gEq (aj gIx (aj gIx (aa 1) (mC (.int 0))) (mC (.int 0))) (mC (.str []))) (eF A i b2 b3 b4) O1=.ok false O1:=by
  have:=fX (aU (g:=gEq) (b:=mC (.str [])) (y:=.str []) (wz (wy (mr:=aa 1) (mi:=mC (.int 0)) (ρ:=eF A i b2 b3 b4) (O:=O1) (d:=.ob i) (k:=0) rfl hd rfl z)) rfl uG)
  rw[zo (f.hd _ z)] at this;exact this
 unfold wB;rw[bD,gf,lN (n:=row.length) l0 (by omega),gh,e1,bB,dD t];rfl
theorem QqZ{O:ao}{is:List Nat}{P:List Row}{lo hi:Nat}(hp:Pc O is P lo hi)(hf:∀r∈P,Fm r/\ROk r/\0<r.length/\r.length<=1000):rR [pD is] O=.ok (.bl true) O:=by
 obtain⟨ρ1,O1,e1,hO1,b1,b2,b3,b4,rfl⟩:=gj (g:=mgN 1) (b:=wB) (λ_ ρ O'=>O'=O/\∃b1 b2 b3 b4,ρ=[some (pD is),b1,b2,b3,b4]) (is.map D.ob) 0 [some (pD is),none,none,none,none] O ⟨rfl,_,_,_,_,rfl⟩ (by
  rintro k d ρ O' hk ⟨rfl,b1,b2,b3,b4,rfl⟩;rw[zl] at hk
  cases hj:is[k]? with
  |none=>rw[hj] at hk;cases hk
  |some i =>
   rw[hj] at hk;have hk':=zx hk;subst hk';obtain⟨r,r1,r2⟩:=hp.at hj;obtain⟨g1,g2,g3,g4⟩:=hf r (zy r1);obtain⟨c2,c3,c4,e⟩:=Qwg (pD is) r2 g1 g2 g3 g4 b2 b3 b4
   exact⟨_,rfl,_,_,.inl e,rfl,_,_,_,_,rfl⟩)
 subst hO1;show bx (aB (bY (cB (aa 0)) (mgN 1) wB) (aW (mC (.bl true))) [some (pD is),none,none,none,none] O1)=_;rw[bD,gf,iB (l:=is.map D.ob) rfl,gh,e1,bB];rfl
def Dy:L2.M D:=aj aN (mC (.int 4)) (aX bF (ak (aj gIx (aa 0) (mC (.int 2))) au))
theorem LR{O:ao}:∀(W:List Wr) (ns:List Nat) (a:Option D) (acc:List D),HW O W ns->cz (mgN 0) cT Dy (hT W ns) [a] O acc=.ok (acc++W.map λx=>D.int (4+(x.2.2.length:Int))) O
 | [],[],a,acc,_=>by
  show Res.ok acc O=_;rw[zN,zS]
 |x::W,n::ns,a,acc,h=>by
  have g:aj gIx (aa 0) (mC (.int 2)) [some (dH x n)] O=.ok (.ob n) O:=aU (x:=dH x n) (y:=.int 2) rfl rfl rfl
  have l:aX bF (ak (aj gIx (aa 0) (mC (.int 2))) au) [some (dH x n)] O=.ok (.int (x.2.2.length:Int)) O:=by
   have:=gk (g:=bF) (xs:=[.ob n]) (z:=.int ((x.2.2.map dC).length:Int)) (ma1 g) (by rw[zj,zN,jt h.1];rfl)
   rw[zd] at this;exact this
  have e4:Dy [some (dH x n)] O=.ok (.int (4+(x.2.2.length:Int))) O:=dj rfl l;show cz _ _ _ (dH x n::hT W ns) _ O acc=_;unfold cz;rw[show mgN 0 (dH x n) [a]=some [some (dH x n)] from rfl];dsimp only;rw[show cT [some (dH x n)] O=.ok true O from rfl];dsimp only;rw[e4];dsimp only;rw[LR W ns _ _ h.2,zJ];rfl
 | [],_::_,_,_,h=>h.elim
 | _::_,[],_,_,h=>h.elim
def wsum(W:List Wr):Int:=(W.map λx:Wr=>4+(x.2.2.length:Int)).sum
theorem QuR:∀{W:List Wr},wsum W=0↔W=[]:=by
 have nn:∀W:List Wr,0<=wsum W:=λW=>by
  induction W with
  |nil=>exact Int.le_refl _
  |cons x W ih =>
   unfold wsum at ih ⊢;rw[zj,List.sum_cons];omega
 intro W
 cases W with
 |nil=>exact⟨λ_=>rfl,λ_=>rfl⟩
 |cons x W =>
  refine⟨λe=>?_,λe=>nomatch e⟩
  have:=nn W
  unfold wsum at e this;rw[zj,List.sum_cons] at e;omega
theorem Quz{O:ao}{W:List Wr}{ns:List Nat}(h:HW O W ns)(hl:W.length<=1000)(hw:∀x∈W,x.2.2.length<=40):oW [.lst (hT W ns)] O=.ok (.int (wsum W)) O:=by
 have e:=LR (O:=O) W ns none [] h;rw[zK] at e;have cm:=jq (own:=1) (cap:=[]) (iB (m:=aa 0) (ρ:=[some (.lst (hT W ns))]) (O:=O) (l:=hT W ns) rfl) (by rw[(km h).2.2];omega) (ρ0:=[none]) rfl e;show bx (aW (aX nW (ak (cI (cB (aa 0)) 1 [] (mgN 0) cT Dy) au)) [some (.lst (hT W ns))] O)=_;rw[gR,gk (ma1 cm) (YB (λx:Wr=>4+(x.2.2.length:Int)) W (λx hx=>by have:=hw x hx;omega) (by omega))];rfl
theorem pJ{O:ao}{is:List Nat}{P:List Row}{lo hi:Nat}(h:Pc O is P lo hi):cJ O 7 (pD is)=dP P:=by
 show D.lst ((is.map D.ob).map (cJ O 6))=_;exact congrArg D.lst (ZV 4 h.len λk i hk=>h.at hk)
theorem Ma{n:Nat}{ma mb:L2.M D}{ρ:az}{O:ao}{x y z z':D}(hi:ma ρ O=.ok x O)(hj:mb ρ O=.ok y O)(h1:cJ O n x=z)(h2:cJ O n y=z')(hz:okE z=true)(hz':okE z'=true):fj false n ma mb ρ O=.ok (.bl (dz z z')) O:=by
 unfold fj;rw[hi,aO,hj,aO,h1,h2,hz,hz',Bool.and_self,if_pos rfl,if_neg zk]
theorem QvS{P Q:List Row}{h w:Nat}(hP:Pic P h w):dz (dP P) (dP Q)=decide (P=Q):=by
 by_cases e:P=Q
 ·subst e;rw[zz rfl];exact qU (v9 hP).2.2.2
 ·rw[zo e]
  cases q:dz (dP P) (dP Q) with
  |false=>rfl
  |true=>exact absurd (Lr q) e
def RP(O:ao)(is:List Nat)(P:List Row):Prop:=∃lo hi,Pc O is P lo hi
theorem RP.agr{O O':ao}{is:List Nat}{P:List Row}(h:RP O is P)(a:Agr O O')(l:O.length<=O'.length):RP O' is P:=by
 obtain⟨lo,hi,p⟩:=h;exact⟨lo,hi,p.frame l λi _ h2=>a i (zA h2 p.hi)⟩
theorem RP.hp{O:ao}{is:List Nat}{P:List Row}(h:RP O is P):HP O (pD is) P:=by
 obtain⟨lo,hi,p⟩:=h;exact⟨is,.inl rfl,p.len,λk i hk=>p.at hk⟩
theorem pK(O E:ao):Agr O (O++E):=λj hj=>zv hj
theorem Agr.trans{O O1 O2:ao}(a:Agr O O1)(b:Agr O1 O2)(l:O.length<=O1.length):Agr O O2:=λj hj=>(b j (zA hj l)).trans (a j hj)
def dKp(x:List Nat×List Nat):D:=.tup [pD x.1,pD x.2]
def Kp(O:ao)(h w:Nat)(ks:List (List Nat×List Nat)):Prop:=∀x∈ks,∃P,Pic P h w/\RP O x.1 P/\RP O x.2 P
theorem Kp.agr{O O':ao}{h w:Nat}{ks:List (List Nat×List Nat)}(k:Kp O h w ks)(a:Agr O O')(l:O.length<=O'.length):Kp O' h w ks:=λx hx=>by
 obtain⟨P,h1,h2,h3⟩:=k x hx;exact⟨P,h1,h2.agr a l,h3.agr a l⟩
theorem Mf{α:Type}:∀l:List α,j0 (l.map λ_=>D.bl true)=some (l.map λ_=>true)
 | []=>rfl
 |x::l=>by
  show(j0 (l.map λ_=>D.bl true)).map (true :: ·)=_;rw[Mf l];rfl
theorem QtZ{O:ao}{h w:Nat}{ks:List (List Nat×List Nat)}(k:Kp O h w ks)(hl:ks.length<=1000){ρ:az}(h6:ρ[6]?=some (some (.lst (ks.map dKp)))):aX qj (ak (cI (cB (aa 6)) 2 [] (fO 2 (cP (mgN 0) (cP (mgN 1) fU))) cT (fj false 7 (aa 0) (aa 1))) au) ρ O=.ok (.bl true) O:=by
 have e:=qW (g:=fO 2 (cP (mgN 0) (cP (mgN 1) fU))) (t:=cT) (m:=fj false 7 (aa 0) (aa 1)) (λρ=>∃a b,ρ=[a,b]) dKp (λ_=>D.bl true) ks [none,none] O [] ⟨_,_,rfl⟩ (by
  rintro x hx ρ ⟨a,b,rfl⟩;obtain⟨P,h1,⟨_,_,p1⟩,⟨_,_,p2⟩⟩:=k x hx;refine⟨[some (pD x.1),some (pD x.2)],rfl,⟨_,_,rfl⟩,rfl,?_⟩;have ok:=(v9 h1).2.2.2
  rw[Ma (x:=pD x.1) (y:=pD x.2) rfl rfl (pJ p1) (pJ p2) ok ok,qU ok])
 rw[zK] at e;have cm:=jq (own:=2) (cap:=[]) (iB (m:=aa 6) (ρ:=ρ) (O:=O) (l:=ks.map dKp) (by rw[uw,h6])) (by rw[zd];omega) (ρ0:=[none,none]) rfl e;refine gk (ma1 cm) ?_;show(j0 (ks.map λ_=>D.bl true)).map (λbs=>D.bl (bs.all id))=_;rw[Mf];show some (D.bl ((ks.map λ_=>true).all id))=_;rw[List.all_map];simp
theorem not_tru{m:L2.M D}{ρ:az}{O O':ao}(h:m ρ O=.ok (.bl true) O'):fM (bZ m) ρ O=.ok false O':=by
 rw[uA,qM,h,aO,jJ,qN,qL,aO];rfl
theorem Mg{t:L2.M Bool}{a b:MS}{ρ:az}{O O':ao}(h:t ρ O=.ok false O'):bz t a b ρ O=b ρ O':=by
 rw[uE,h,uF,if_neg zk]
theorem Dz{t1 t2:L2.M Bool}{ρ:az}{O O1 O2:ao}(h1:t1 ρ O=.ok false O1)(h2:t2 ρ O1=.ok false O2):fL t1 t2 ρ O=.ok false O2:=by
 rw[uz,h1,aO,if_neg zk,h2]
theorem Qux{i:Nat}{m:L2.M D}{ρ:az}{O O1:ao}{d:D}{ds:List D}(hm:m ρ O=.ok d O1)(h:ρ[i]?=some (some (.lst ds)))(hl:ds.length<1000000):cQ i m ρ O=.nx (ρ.set i (some (.lst (ds++[d])))) O1:=by
 rw[yJ,hm,yK h hl]
def T8:MS:=aC 8 (aJ d9 (ak (aa 0) (ak (aa 7) au)))
def T9:MS:=aC 9 (aj gIx (aa 3) (aj bw (aJ dW (ak (aa 8) (ak (mC (.int 0)) au))) (aX bF (ak (aa 3) au))))
def T10:MS:=aC 10 (aj bw (aJ dW (ak (aa 8) (ak (mC (.int 1)) au))) (aj aN (aj gIx (aa 9) (mC (.int 3))) (mC (.int 1))))
def Mh:L2.M D:=aJ rP (ak (aJ d9 (ak (aa 1) (ak (aj aN (aj aN (aa 2) (mC (.int 1))) (aa 0)) au))) (ak (aj gIx (aa 3) (mC (.int 4))) au))
def T11:MS:=aC 11 (cI (dB (ak (aa 10) au)) 1 [0,7,9] (mgN 0) cT Mh)
def T12:MS:=aC 12 (aJ o7 (ak (aa 4) (ak (aa 9) (ak (aa 11) au))))
def T13:MS:=aC 13 (aJ lK (ak (aa 4) (ak (aa 12) au)))
def T5:MS:=aC 5 (aJ vh (ak (aa 5) (ak (aa 13) au)))
def rF:MS:=aW (mC (.bl false))
def TI1:MS:=bz (fL (fM (bZ (aJ o8 (ak (aa 5) (ak (aJ lL (ak (aa 12) au)) au))))) (fM (bZ (aJ rR (ak (aa 12) au))))) rF bI
def T14:MS:=aC 14 (aJ o7 (ak (aa 12) (ak (aa 9) (ak (aa 11) au))))
def TI2:MS:=bz (fL (aQ (fj true 7 (aa 14) (aa 12))) (fL (aQ (aj gNe (aJ lK (ak (aa 12) (ak (aa 14) au))) (bK au))) (aQ (aj gNe (aj gEq (aJ oW (ak (aa 13) au)) (mC (.int 0))) (fj false 7 (aa 4) (aa 12)))))) rF bI
def T6:MS:=cQ 6 (bU (ak (aa 12) (ak (aJ lL (ak (aa 12) au)) au)))
def T4:MS:=aC 4 (aa 12)
def wC:MS:=aB T8 (aB T9 (aB T10 (aB T11 (aB T12 (aB T13 (aB T5 (aB TI1 (aB T14 (aB TI2 (aB T6 T4))))))))))
def en(X:D)(h w:Nat)(RS d4 d5:D)(ks:List (List Nat×List Nat))(t:Nat)(a8 a9 a10 a11 a12 a13 a14:Option D):az:=[some X,some (.int (h:Int)),some (.int (w:Int)),some RS,some d4,some d5,some (.lst (ks.map dKp)),some (.int (t:Int)),a8,a9,a10,a11,a12,a13,a14]
theorem turn(xs:List Int)(h w:Nat)(h12:h<=12)(w2:2<=w)(w40:w<=40){rs:List Rm}{left:Nat}(R:Rs rs left w h)(rs0:0<rs.length){L:List Nat}(hL:L=rs.map Rm.broad++[w - left])(t:Nat)(ht:t<=100){O:ao}{is js:List Nat}{P:List Row}(p4:RP O is P)(p5:RP O js P)(sp:SP L P h){ks:List (List Nat×List Nat)}(kp:Kp O h w ks)(kl:ks.length<=100)(a8 a9 a10 a11 a12 a13 a14:Option D):
  ∃(O':ao) (is' js':List Nat) (P':List Row) (ks':List (List Nat×List Nat)) (b8 b9 b10 b11 b12 b13 b14:Option D),RP O' is' P'/\RP O' js' P'/\SP L P' h/\Kp O' h w ks'/\ks'.length=ks.length+1 /\
   wC (en (.lst (xs.map D.int)) h w (.lst (rs.map dR)) (pD is) (pD js) ks t a8 a9 a10 a11 a12 a13 a14) O=.nx (en (.lst (xs.map D.int)) h w (.lst (rs.map dR)) (pD is') (pD js') ks' t b8 b9 b10 b11 b12 b13 b14) O':=by
 have hLs:L.sum=w:=by
  rw[hL,List.sum_append,R.sum]
  have:=R.le
  simp
  omega
 obtain⟨X,hX⟩:∃X,X=D.lst (xs.map D.int):=⟨_,rfl⟩;obtain⟨RS,hRS⟩:∃R,R=D.lst (rs.map dR):=⟨_,rfl⟩;rw[<-hX,<-hRS];obtain⟨v,ev⟩:=vU xs (a:=aa 0) (b:=aa 7) (ρ:=en X h w RS (pD is) (pD js) ks t a8 a9 a10 a11 a12 a13 a14) (O:=O) (k:=(t:Int)) (by rw[hX];rfl) rfl (by omega) (by omega);have s8:T8 (en X h w RS (pD is) (pD js) ks t a8 a9 a10 a11 a12 a13 a14) O=.nx (en X h w RS (pD is) (pD js) ks t (some (.int v)) a9 a10 a11 a12 a13 a14) O:=bQ ev;have qr:=m9 v 0 (rs.length:Int) (by omega);obtain⟨i,hi⟩:∃i:Nat,mix v 0 % (rs.length:Int)=(i:Int):=⟨_,(Int.toNat_of_nonneg qr.1).symm⟩
 have hir:rs[i]?=some (rs[i]'(by omega)):=zg _
 generalize rs[i]'(by omega)=r at hir
 obtain⟨r1',r2',r3'⟩:=R.at' i r hir
 have hbr:(rs.map Rm.broad)[i]?=some r.broad:=by rw[zl,hir];rfl
 have hil:i<(rs.map Rm.broad).length:=(zh.mp hbr).1
 have hLi:L[i]?=some r.broad:=by rw[hL,zv hil];exact hbr
 have hLl:r.left=(L.take i).sum:=by rw[hL,List.take_append_of_le_length (Nat.le_of_lt hil)];exact r1'
 have ln:aX bF (ak (aa 3) au) (en X h w RS (pD is) (pD js) ks t (some (.int v)) a9 a10 a11 a12 a13 a14) O=.ok (.int (rs.length:Int)) O:=by
  have:=rZ (m:=aa 3) (ρ:=en X h w RS (pD is) (pD js) ks t (some (.int v)) a9 a10 a11 a12 a13 a14) (O:=O) (l:=rs.map dR) (by rw[hRS];rfl)
  rw[zd] at this;exact this
 have s9:T9 (en X h w RS (pD is) (pD js) ks t (some (.int v)) a9 a10 a11 a12 a13 a14) O=.nx (en X h w RS (pD is) (pD js) ks t (some (.int v)) (some (dR r)) a10 a11 a12 a13 a14) O :=
  bQ (aU (x:=.lst (rs.map dR)) (y:=.int (i:Int)) (by rw[hRS];rfl) (by rw[<-hi];exact fH (lO (c:=v) rfl rfl (by decide) (by decide)) ln (by omega)) (jr (by rw[zl,hir];rfl)))
 have qm:=m9 v 1 ((r.tall:Int)+1) (by omega);obtain⟨many,hmany⟩:∃many:Nat,mix v 1 % ((r.tall:Int)+1)=(many:Int):=⟨_,(Int.toNat_of_nonneg qm.1).symm⟩
 have s10:T10 (en X h w RS (pD is) (pD js) ks t (some (.int v)) (some (dR r)) a10 a11 a12 a13 a14) O=.nx (en X h w RS (pD is) (pD js) ks t (some (.int v)) (some (dR r)) (some (.int (many:Int))) a11 a12 a13 a14) O:=by
  have:=bQ (i:=10) (fH (lO (a:=aa 8) (b:=mC (.int 1)) (ρ:=en X h w RS (pD is) (pD js) ks t (some (.int v)) (some (dR r)) a10 a11 a12 a13 a14) (O:=O) (c:=v) rfl rfl (by decide) (by decide)) (dj (b:=mC (.int 1)) (j:=1) (aU (a:=aa 9) (b:=mC (.int 3)) (x:=dR r) rfl rfl (r3 r)) rfl) (by omega))
  rw[hmany] at this;exact this
 obtain⟨lines,ll,lq,el⟩:=J8 (g:=mgN 0) (t:=cT) (m:=Mh) (λρ=>∃a,ρ=[a,some X,some (.int (t:Int)),some (dR r)]) (λi:Nat=>D.int (i:Int)) (λl:List LT=>D.lst (l.map dL)) (λl=>(∀x∈l,LOk x)/\l.length<=100/\(cells l).length<=r.broad) (List.range many) [none,some X,some (.int (t:Int)),some (dR r)] O [] ⟨_,rfl⟩ (by
  rintro k hk ρ ⟨a,rfl⟩;have hk':=List.mem_range.mp hk;refine⟨_,rfl,⟨_,rfl⟩,rfl,?_⟩;obtain⟨u,eu⟩:=vU xs (a:=aa 1) (b:=aj aN (aj aN (aa 2) (mC (.int 1))) (aa 0)) (ρ:=[some (.int (k:Int)),some X,some (.int (t:Int)),some (dR r)]) (O:=O) (k:=(t:Int)+1+(k:Int)) (by rw[hX];rfl) (dj (dj rfl rfl) rfl) (by omega) (by omega);obtain⟨ls,g1,g2,g3,g4⟩:=Quf u r.broad (by omega) O;refine⟨ls,⟨g1,by omega,g3⟩,?_⟩;show aJ rP _ [some (.int (k:Int)),some X,some (.int (t:Int)),some (dR r)] O=_
  rw[cL (maS eu (ma1 (aU (a:=aa 3) (b:=mC (.int 4)) (x:=dR r) rfl rfl (r4 r)))),g4])
 rw[zK] at el;have hrg:=lN (m:=aa 10) (ρ:=en X h w RS (pD is) (pD js) ks t (some (.int v)) (some (dR r)) (some (.int (many:Int))) a11 a12 a13 a14) (O:=O) (n:=many) rfl (by omega);rw[CT] at hrg;have s11:T11 (en X h w RS (pD is) (pD js) ks t (some (.int v)) (some (dR r)) (some (.int (many:Int))) a11 a12 a13 a14) O=.nx (en X h w RS (pD is) (pD js) ks t (some (.int v)) (some (dR r)) (some (.int (many:Int))) (some (bO lines)) a12 a13 a14) O :=
  bQ (jq (own:=1) (cap:=[0,7,9]) hrg (by rw[zd,List.length_range];omega) (ρ0:=[none,some X,some (.int (t:Int)),some (dR r)]) rfl el)
 have F:Fits r lines w h:=⟨r2',r3',by omega,by omega,λl hl=>⟨(lq l hl).2.1,(lq l hl).2.2⟩⟩;have pic:=sp.pic hLs;obtain⟨Q,hQ⟩:∃Q,Q=drP r lines r.tall P:=⟨_,rfl⟩
 have spQ:SP L Q h:=by rw[hQ];exact sp.draw F hLi hLl λl hl=>(lq l hl).1
 have picQ:=spQ.pic hLs;obtain⟨lo4,hi4,p4'⟩:=p4;obtain⟨E1,qs,ed,pq⟩:=Ly F p4' sp.len pic.wd;rw[<-hQ] at pq;obtain⟨O1,hO1⟩:∃O1,O1=O++E1:=⟨_,rfl⟩
 have ag1:Agr O O1:=by rw[hO1];exact pK _ _
 have le1:O.length<=O1.length:=by rw[hO1,ze];omega
 rw[<-hO1] at ed pq;have s12:T12 (en X h w RS (pD is) (pD js) ks t (some (.int v)) (some (dR r)) (some (.int (many:Int))) (some (bO lines)) a12 a13 a14) O=.nx (en X h w RS (pD is) (pD js) ks t (some (.int v)) (some (dR r)) (some (.int (many:Int))) (some (bO lines)) (some (pD qs)) a13 a14) O1 :=
  jN ((cL (maS (x:=pD is) rfl (maS (x:=dR r) rfl (ma1 (x:=bO lines) rfl)))).trans ed)
 have q1:RP O1 qs Q:=⟨_,_,pq⟩;have p41:RP O1 is P:=RP.agr ⟨_,_,p4'⟩ ag1 le1;have p51:=p5.agr ag1 le1;obtain⟨O2,ns,e2,pw,wl⟩:=Lj h12 w40 pic picQ p41.hp q1.hp;have kk:=Ln w40 pic picQ;have Lw:lay (pwk P Q h) P=Q:=ZM w40 pic picQ
 have Wz:pwk P Q h=[]↔P=Q:=by
  refine⟨λe=>?_,λe=>?_⟩
  ·rw[e] at Lw;exact Lw
  ·rw[<-e];exact Lp P h
 generalize pwk P Q h=W at e2 pw wl kk Lw Wz
 have s13:T13 (en X h w RS (pD is) (pD js) ks t (some (.int v)) (some (dR r)) (some (.int (many:Int))) (some (bO lines)) (some (pD qs)) a13 a14) O1=.nx (en X h w RS (pD is) (pD js) ks t (some (.int v)) (some (dR r)) (some (.int (many:Int))) (some (bO lines)) (some (pD qs)) (some (.lst (hT W ns))) a14) O2 :=
  jN ((cL (maS (x:=pD is) rfl (ma1 (x:=pD qs) rfl))).trans e2)
 have q2:=q1.agr pw.ag pw.le;have p42:=p41.agr pw.ag pw.le;obtain⟨lo5,hi5,p52⟩:=p51.agr pw.ag pw.le;have ep:=ZG h w h12 w40 pic kk.ok p52 pw.hw;rw[Lw] at ep;obtain⟨O3,hO3⟩:∃O3,O3=O2++Q.map bu:=⟨_,rfl⟩
 have ag3:Agr O2 O3:=by rw[hO3];exact pK _ _
 have le3:O2.length<=O3.length:=by rw[hO3,ze];omega
 have n5:=ph O2 Q;rw[<-hO3,spQ.len] at n5;rw[<-hO3] at ep;have s5:T5 (en X h w RS (pD is) (pD js) ks t (some (.int v)) (some (dR r)) (some (.int (many:Int))) (some (bO lines)) (some (pD qs)) (some (.lst (hT W ns))) a14) O2=.nx (en X h w RS (pD is) (pD (ids O2.length h)) ks t (some (.int v)) (some (dR r)) (some (.int (many:Int))) (some (bO lines)) (some (pD qs)) (some (.lst (hT W ns))) a14) O3 :=
  jN ((cL (maS (x:=pD js) rfl (ma1 (x:=.lst (hT W ns)) rfl))).trans ep)
 obtain⟨loq,hiq,q3⟩:=q2.agr ag3 le3;have p43:=p42.agr ag3 le3;have hw3:HW O3 W ns:=pH (λn hn=>ag3 n ((km pw.hw).1 n hn)) pw.hw;obtain⟨O4,hO4⟩:∃O4,O4=O3++Q.map bu:=⟨_,rfl⟩
 have ag4:Agr O3 O4:=by rw[hO4];exact pK _ _
 have le4:O3.length<=O4.length:=by rw[hO4,ze];omega
 have nc:=ph O3 Q;have ecp:=J3 q3 (by rw[q3.len,spQ.len];omega);rw[<-hO4] at nc ecp
 have n54:=n5.frame le4 λi _ h2=>ag4 i (zA h2 n5.hi)
 have q4:=q3.frame le4 λi _ h2=>ag4 i (zA h2 q3.hi)
 have hQl:Q.length<=1000:=by rw[spQ.len];omega
 have hQw:∀x∈Q,x.length<=1000:=λx hx=>by rw[picQ.wd x hx];omega
 have sI1:TI1 (en X h w RS (pD is) (pD (ids O2.length h)) ks t (some (.int v)) (some (dR r)) (some (.int (many:Int))) (some (bO lines)) (some (pD qs)) (some (.lst (hT W ns))) a14) O3=.nx (en X h w RS (pD is) (pD (ids O2.length h)) ks t (some (.int v)) (some (dR r)) (some (.int (many:Int))) (some (bO lines)) (some (pD qs)) (some (.lst (hT W ns))) a14) O4:=by
  have c1:aJ o8 (ak (aa 5) (ak (aJ lL (ak (aa 12) au)) au)) (en X h w RS (pD is) (pD (ids O2.length h)) ks t (some (.int v)) (some (dR r)) (some (.int (many:Int))) (some (bO lines)) (some (pD qs)) (some (.lst (hT W ns))) a14) O3=.ok (.bl true) O4:=by
   rw[yD,mO,show aa 5 (en X h w RS (pD is) (pD (ids O2.length h)) ks t (some (.int v)) (some (dR r)) (some (.int (many:Int))) (some (bO lines)) (some (pD qs)) (some (.lst (hT W ns))) a14) O3=.ok (pD (ids O2.length h)) O3 from rfl,aO,mO,cL (ma1 (x:=pD qs) rfl),ecp,aO,uC,aO,aO,aO];exact Yw n54.rws nc.rws hQl hQw
  have c2:aJ rR (ak (aa 12) au) (en X h w RS (pD is) (pD (ids O2.length h)) ks t (some (.int v)) (some (dR r)) (some (.int (many:Int))) (some (bO lines)) (some (pD qs)) (some (.lst (hT W ns))) a14) O4=.ok (.bl true) O4:=(cL (ma1 (x:=pD qs) rfl)).trans (QqZ q4 λx hx=>⟨(spQ.row x hx).fm,(spQ.row x hx).rok,by rw[picQ.wd x hx];omega,hQw x hx⟩);unfold TI1;exact Mg (Dz (not_tru c1) (not_tru c2))
 obtain⟨E5,zs,ed5,pz⟩:=Ly F q4 spQ.len picQ.wd
 have hidem:drP r lines r.tall Q=Q:=by rw[hQ];exact Qq5 F sp.len pic.wd
 rw[hidem] at pz;obtain⟨O5,hO5⟩:∃O5,O5=O4++E5:=⟨_,rfl⟩
 have ag5:Agr O4 O5:=by rw[hO5];exact pK _ _
 have le5:O4.length<=O5.length:=by rw[hO5,ze];omega
 rw[<-hO5] at ed5 pz;have s14:T14 (en X h w RS (pD is) (pD (ids O2.length h)) ks t (some (.int v)) (some (dR r)) (some (.int (many:Int))) (some (bO lines)) (some (pD qs)) (some (.lst (hT W ns))) a14) O4=.nx (en X h w RS (pD is) (pD (ids O2.length h)) ks t (some (.int v)) (some (dR r)) (some (.int (many:Int))) (some (bO lines)) (some (pD qs)) (some (.lst (hT W ns))) (some (pD zs))) O5 :=
  jN ((cL (maS (x:=pD qs) rfl (maS (x:=dR r) rfl (ma1 (x:=bO lines) rfl)))).trans ed5)
 have q5:=q4.frame le5 λi _ h2=>ag5 i (zA h2 q4.hi)
 obtain⟨O6,ns6,e6,pw6,_⟩:=Lj h12 w40 picQ picQ (RP.hp ⟨_,_,q5⟩) (RP.hp ⟨_,_,pz⟩)
 have hz6:hT (pwk Q Q h) ns6=[]:=by
  have:=(km pw6.hw).2.2
  rw[Lp] at this ⊢;exact List.eq_nil_of_length_eq_zero this
 rw[hz6] at e6;have ag36:Agr O3 O6:=(ag4.trans ag5 le4).trans pw6.ag (by omega)
 have le36:O3.length<=O6.length:=by have:=pw6.le;omega
 obtain⟨lo46,hi46,p46⟩:=p43.agr ag36 le36
 have q6:=q3.frame le36 λi _ h2=>ag36 i (zA h2 q3.hi)
 have hw6:HW O6 W ns:=pH (λn hn=>ag36 n ((km hw3).1 n hn)) hw3;have okQ:=(v9 picQ).2.2.2;have okP:=(v9 pic).2.2.2
 have sI2:TI2 (en X h w RS (pD is) (pD (ids O2.length h)) ks t (some (.int v)) (some (dR r)) (some (.int (many:Int))) (some (bO lines)) (some (pD qs)) (some (.lst (hT W ns))) (some (pD zs))) O5=.nx (en X h w RS (pD is) (pD (ids O2.length h)) ks t (some (.int v)) (some (dR r)) (some (.int (many:Int))) (some (bO lines)) (some (pD qs)) (some (.lst (hT W ns))) (some (pD zs))) O6:=by
  obtain⟨ρ,hρ⟩:∃ρ,ρ=en X h w RS (pD is) (pD (ids O2.length h)) ks t (some (.int v)) (some (dR r)) (some (.int (many:Int))) (some (bO lines)) (some (pD qs)) (some (.lst (hT W ns))) (some (pD zs)):=⟨_,rfl⟩
  have v4:∀O,aa 4 ρ O=.ok (pD is) O:=λO=>by rw[hρ];rfl
  have v12:∀O,aa 12 ρ O=.ok (pD qs) O:=λO=>by rw[hρ];rfl
  have v13:∀O,aa 13 ρ O=.ok (.lst (hT W ns)) O:=λO=>by rw[hρ];rfl
  have v14:∀O,aa 14 ρ O=.ok (pD zs) O:=λO=>by rw[hρ];rfl
  rw[<-hρ];have t1:aQ (fj true 7 (aa 14) (aa 12)) ρ O5=.ok false O5:=ZR (v14 O5) (v12 O5) (pJ pz) (pJ q5) okQ
  have t2:aQ (aj gNe (aJ lK (ak (aa 12) (ak (aa 14) au))) (bK au)) ρ O5=.ok false O6:=by
   rw[ux,yx,cL (maS (v12 O5) (ma1 (v14 O5))),e6,aO];rfl
  have cst:aj gEq (aJ oW (ak (aa 13) au)) (mC (.int 0)) ρ O6=.ok (.bl (decide (wsum W=0))) O6:=aU ((cL (ma1 (v13 O6))).trans (Quz hw6 (by omega) λx hx=>by have:=(kk.ok x hx).cl;omega)) rfl Ia
  have eqv:fj false 7 (aa 4) (aa 12) ρ O6=.ok (.bl (decide (P=Q))) O6:=by
   rw[Ma (v4 O6) (v12 O6) (pJ p46) (pJ q6) okP okQ,QvS pic]
  have t3:aQ (aj gNe (aj gEq (aJ oW (ak (aa 13) au)) (mC (.int 0))) (fj false 7 (aa 4) (aa 12))) ρ O6=.ok false O6:=fX (aU cst eqv (by
   rw[jJ,jJ,Ie,show decide (wsum W=0)=decide (P=Q) from decide_eq_decide.mpr (QuR.trans Wz),zz rfl]
   rfl))
  unfold TI2;exact Mg (Dz t1 (Dz t2 t3))
 obtain⟨O7,hO7⟩:∃O7,O7=O6++Q.map bu:=⟨_,rfl⟩
 have ag7:Agr O6 O7:=by rw[hO7];exact pK _ _
 have le7:O6.length<=O7.length:=by rw[hO7,ze];omega
 have n7:=ph O6 Q;have ecp7:=J3 q6 (by rw[q6.len,spQ.len];omega);rw[<-hO7] at n7 ecp7
 have s6:T6 (en X h w RS (pD is) (pD (ids O2.length h)) ks t (some (.int v)) (some (dR r)) (some (.int (many:Int))) (some (bO lines)) (some (pD qs)) (some (.lst (hT W ns))) (some (pD zs))) O6=.nx (en X h w RS (pD is) (pD (ids O2.length h)) (ks++[(qs,ids O6.length Q.length)]) t (some (.int v)) (some (dR r)) (some (.int (many:Int))) (some (bO lines)) (some (pD qs)) (some (.lst (hT W ns))) (some (pD zs))) O7:=by
  have m:bU (ak (aa 12) (ak (aJ lL (ak (aa 12) au)) au)) (en X h w RS (pD is) (pD (ids O2.length h)) ks t (some (.int v)) (some (dR r)) (some (.int (many:Int))) (some (bO lines)) (some (pD qs)) (some (.lst (hT W ns))) (some (pD zs))) O6=.ok (dKp (qs,ids O6.length Q.length)) O7:=by
   rw[HR,mO,show aa 12 (en X h w RS (pD is) (pD (ids O2.length h)) ks t (some (.int v)) (some (dR r)) (some (.int (many:Int))) (some (bO lines)) (some (pD qs)) (some (.lst (hT W ns))) (some (pD zs))) O6=.ok (pD qs) O6 from rfl,aO,mO,cL (ma1 (x:=pD qs) rfl),ecp7,aO,uC,aO,aO,aO];exact if_pos (show 2<=1000000 by decide)
  refine(Qux (ds:=ks.map dKp) m rfl (by rw[zd];omega)).trans ?_;unfold en;rw[zD];rfl
 have ag37:=ag36.trans ag7 le36
 have le37:O3.length<=O7.length:=by omega
 have q7:RP O7 qs Q:=RP.agr ⟨_,_,q6⟩ ag7 le7;have ag07:Agr O O7:=((ag1.trans pw.ag le1).trans ag3 (by have:=pw.le;omega)).trans ag37 (by have:=pw.le;omega)
 have le07:O.length<=O7.length:=by have:=pw.le;omega
 refine⟨O7,qs,ids O2.length h,Q,ks++[(qs,ids O6.length Q.length)],some (.int v),some (dR r),some (.int (many:Int)),some (bO lines),some (pD qs),some (.lst (hT W ns)),some (pD zs),q7,RP.agr ⟨_,_,n5⟩ ag37 le37,spQ,?_,by rw[ze];rfl,?_⟩
 ·intro x hx
  rcases zF.mp hx with hx | hx
  ·exact(kp.agr ag07 le07) x hx
  ·rw[zp.mp hx];exact⟨Q,picQ,q7,⟨_,_,n7⟩⟩
 ·unfold wC;rw[sq s8,sq s9,sq s10,sq s11,sq s12,sq s13,sq s5,sq sI1,sq s14,sq sI2,sq s6];rfl
theorem QsD{m:L2.M (List D)}{ρ:az}{O O1:ao}{i j:Int}(e:m ρ O=.ok [.int i,.int j] O1)(h:(i<=1000000000/\-1000000000<=i)/\j<=1000000000/\-1000000000<=j):nY m ρ O=.ok (cZ i (j - i).toNat) O1:=by
 unfold nY;rw[e,aO];exact if_pos h
theorem Qym{a:Int}{n i:Nat}{d:D}(h:(cZ a n)[i]?=some d):i<n/\d=.int (a+(i:Int)):=by
 unfold cZ at h;rw[zl] at h
 by_cases hi:i<n
 ·rw[List.getElem?_range hi] at h;exact⟨hi,(zx h).symm⟩
 ·rw[zV (by rw[List.length_range];omega)] at h;cases h
def P0(h w:Nat):List Row:=List.replicate h (List.replicate w bl)
theorem DG(h w:Nat):(P0 h w).length=h:=by unfold P0;rw[List.length_replicate]
theorem Qvn(v:Int):∃x:Int,1<=x/\x<=23/\gIx (.lst [.int 8,.int 23]) (.int (v % 2))=some (.int x):=by
 obtain⟨c,hc,e⟩:=ixL (l:=[D.int 8,D.int 23]) (v:=v) (n:=2) rfl (by decide)
 rcases zm.mp hc with rfl | hc
 ·exact⟨8,by decide,by decide,e⟩
 ·rw[zp.mp hc] at e;exact⟨23,by decide,by decide,e⟩
def L1':MS:=aC 1 (aj aN (mC (.int 1)) (aj bw (aJ dW (ak (aJ d9 (ak (aa 0) (ak (mC (.int 0)) au))) (ak (mC (.int 1)) au))) (mC (.int 6))))
def L2':MS:=aC 2 (aj aN (mC (.int 2)) (aj bw (aJ dW (ak (aJ d9 (ak (aa 0) (ak (mC (.int 0)) au))) (ak (mC (.int 3)) au))) (aj gIx (bK (ak (mC (.int 8)) (ak (mC (.int 23)) au))) (aj bw (aJ dW (ak (aJ d9 (ak (aa 0) (ak (mC (.int 0)) au))) (ak (mC (.int 4)) au))) (mC (.int 2))))))
def L3':MS:=aC 3 (aJ vJ (ak (aa 0) (ak (aa 1) (ak (aa 2) au))))
def L4':MS:=aC 4 (aJ mX (ak (aa 1) (ak (aa 2) au)))
def L5':MS:=aC 5 (aJ mX (ak (aa 1) (ak (aa 2) au)))
def L6':MS:=aC 6 (bK au)
def L7':MS:=bY (nY (ak (mC (.int 5)) (ak (aX lB (ak (mC (.int 7)) (ak (aX lC (ak (mC (.int 17)) (ak (aX bF (ak (aa 0) au)) au))) au))) au))) (mgN 7) wC
def L8':MS:=aW (aX qj (ak (cI (cB (aa 6)) 2 [] (fO 2 (cP (mgN 0) (cP (mgN 1) fU))) cT (fj false 7 (aa 0) (aa 1))) au))
def eW(X:D)(a1 a2 a3 a4 a5 a6 a7 a8 a9 a10 a11 a12 a13 a14:Option D):az:=[some X,a1,a2,a3,a4,a5,a6,a7,a8,a9,a10,a11,a12,a13,a14]
theorem QrG(xs:List Int)(hx:xs.length<=63):∃O',JX [.lst (xs.map D.int)] []=.ok (.bl true) O':=by
 obtain⟨X,hX⟩:∃X,X=D.lst (xs.map D.int):=⟨_,rfl⟩;rw[<-hX]
 have cell0:∀a1 a2,∃v,aJ d9 (ak (aa 0) (ak (mC (.int 0)) au)) (eW X a1 a2 none none none none none none none none none none none none) []=.ok (.int v) []:=λa1 a2=>vU xs (k:=0) (by rw[hX];rfl) rfl (by decide) (by decide)
 obtain⟨v1,ev1⟩:=cell0 none none;have m1:=m9 v1 1 6 (by decide);obtain⟨h,hh⟩:∃h:Nat,1+mix v1 1 % 6=(h:Int):=⟨_,(Int.toNat_of_nonneg (by omega)).symm⟩
 have s1:L1' (eW X none none none none none none none none none none none none none none) []=.nx (eW X (some (.int (h:Int))) none none none none none none none none none none none none none) []:=by
  rw[<-hh];exact bQ (dj rfl (fH (lO ev1 rfl (by decide) (by decide)) rfl (by decide)))
 obtain⟨v2,ev2⟩:=cell0 (some (.int (h:Int))) none;obtain⟨y,y1,y2,ey⟩:=Qvn (mix v2 4);have m2:=m9 v2 3 y (by omega);obtain⟨w,hw⟩:∃w:Nat,2+mix v2 3 % y=(w:Int):=⟨_,(Int.toNat_of_nonneg (by omega)).symm⟩
 have s2:L2' (eW X (some (.int (h:Int))) none none none none none none none none none none none none none) []=.nx (eW X (some (.int (h:Int))) (some (.int (w:Int))) none none none none none none none none none none none none) []:=by
  rw[<-hw];exact bQ (dj rfl (fH (lO ev2 rfl (by decide) (by decide)) (aU (x:=.lst [.int 8,.int 23]) (rY (maS rfl (ma1 rfl)) (show 2<=1000000 by decide)) (fH (lO ev2 rfl (by decide) (by decide)) rfl (by decide)) ey) (by omega)))
 have h1:1<=h:=by omega
 have h6:h<=12:=by omega
 have w2:2<=w:=by omega
 have w40:w<=40:=by omega
 obtain⟨rs,left,R,rs0,rs3,er⟩:=QsP xs h w h1 w2 [];rw[<-hX] at er;obtain⟨RS,hRS⟩:∃R,R=D.lst (rs.map dR):=⟨_,rfl⟩;rw[<-hRS] at er;have s3:L3' (eW X (some (.int (h:Int))) (some (.int (w:Int))) none none none none none none none none none none none none) []=.nx (eW X (some (.int (h:Int))) (some (.int (w:Int))) (some RS) none none none none none none none none none none none) []:=bQ ((cL (maS (x:=X) rfl (maS (x:=.int (h:Int)) rfl (ma1 (x:=.int (w:Int)) rfl)))).trans er)
 have eb:∀O,mX [.int (h:Int),.int (w:Int)] O=.ok (pD (ids O.length h)) (O++(P0 h w).map bu):=λO=>ZW h w (by omega) (by omega) O
 obtain⟨O1,hO1⟩:∃O1:ao,O1=[]++(P0 h w).map bu:=⟨_,rfl⟩;obtain⟨O2,hO2⟩:∃O2:ao,O2=O1++(P0 h w).map bu:=⟨_,rfl⟩;have n4:=ph [] (P0 h w);have n5:=ph O1 (P0 h w);rw[<-hO1,DG] at n4;rw[<-hO2,DG] at n5;have s4:L4' (eW X (some (.int (h:Int))) (some (.int (w:Int))) (some RS) none none none none none none none none none none none) []=.nx (eW X (some (.int (h:Int))) (some (.int (w:Int))) (some RS) (some (pD (ids 0 h))) none none none none none none none none none none) O1:=jN ((cL (maS (x:=.int (h:Int)) rfl (ma1 (x:=.int (w:Int)) rfl))).trans (by rw[hO1];exact eb []))
 have s5:L5' (eW X (some (.int (h:Int))) (some (.int (w:Int))) (some RS) (some (pD (ids 0 h))) none none none none none none none none none none) O1=.nx (eW X (some (.int (h:Int))) (some (.int (w:Int))) (some RS) (some (pD (ids 0 h))) (some (pD (ids O1.length h))) none none none none none none none none none) O2:=jN ((cL (maS (x:=.int (h:Int)) rfl (ma1 (x:=.int (w:Int)) rfl))).trans (by rw[hO2];exact eb O1));have s6:L6' (eW X (some (.int (h:Int))) (some (.int (w:Int))) (some RS) (some (pD (ids 0 h))) (some (pD (ids O1.length h))) none none none none none none none none none) O2=.nx (eW X (some (.int (h:Int))) (some (.int (w:Int))) (some RS) (some (pD (ids 0 h))) (some (pD (ids O1.length h))) (some (.lst [])) none none none none none none none none) O2:=rfl
 obtain⟨L,hL⟩:∃L,L=rs.map Rm.broad++[w - left]:=⟨_,rfl⟩
 have hLs:L.sum=w:=by
  rw[hL,List.sum_append,R.sum]
  have:=R.le
  simp
  omega
 have sp0:SP L (P0 h w) h:=⟨DG h w,λx hx=>by
  rw[(List.mem_replicate.mp hx).2,<-hLs]
  exact Sgs.rep L⟩
 have p4:RP O2 (ids 0 h) (P0 h w):=RP.agr (O:=O1) ⟨_,_,n4⟩ (by rw[hO2];exact pK _ _) (by rw[hO2,ze];omega)
 obtain⟨N,hN,hN2⟩:∃N:Nat,N<=12/\nY (ak (mC (.int 5)) (ak (aX lB (ak (mC (.int 7)) (ak (aX lC (ak (mC (.int 17)) (ak (aX bF (ak (aa 0) au)) au))) au))) au)) (eW X (some (.int (h:Int))) (some (.int (w:Int))) (some RS) (some (pD (ids 0 h))) (some (pD (ids O1.length h))) (some (.lst [])) none none none none none none none none) O2=.ok (cZ 5 N) O2:=by
  have l0:=rZ (m:=aa 0) (ρ:=eW X (some (.int (h:Int))) (some (.int (w:Int))) (some RS) (some (pD (ids 0 h))) (some (pD (ids O1.length h))) (some (.lst [])) none none none none none none none none) (O:=O2) (l:=xs.map D.int) (by rw[hX];rfl);rw[zd] at l0;have mn:=gk (g:=lC) (maS (a:=mC (.int 17)) (x:=.int 17) rfl (ma1 l0)) (show lC ([D.int 17,D.int (xs.length:Int)].map (aZ O2))=some (.int (if(xs.length:Int)<17 then(xs.length:Int) else 17)) from rfl);obtain⟨a,ha⟩:∃a:Int,a=if(xs.length:Int)<17 then(xs.length:Int) else 17:=⟨_,rfl⟩;rw[<-ha] at mn;have mx:=gk (g:=lB) (maS (a:=mC (.int 7)) (x:=.int 7) rfl (ma1 mn)) (show lB ([D.int 7,D.int a].map (aZ O2))=some (.int (if a>7 then a else 7)) from rfl)
  obtain⟨b,hb⟩:∃b:Int,b=if a>7 then a else 7:=⟨_,rfl⟩;rw[<-hb] at mx
  have ha17:a<=17:=by rw[ha];split<;>omega
  have hb17:7<=b/\b<=17:=by rw[hb];split<;>omega
  exact⟨(b - 5).toNat,by omega,QsD (maS (a:=mC (.int 5)) (x:=.int 5) rfl (ma1 mx)) ⟨by decide,by omega,by omega⟩⟩
 obtain⟨ρ7,O7,e7,is,js,P,ks,a7,a8,a9,a10,a11,a12,a13,a14,rfl,g1,g2,g3,g4,g5⟩:=gj (g:=mgN 7) (b:=wC)
  (λk ρ O'=>∃(is js:List Nat) (P:List Row) (ks:List (List Nat×List Nat)) (a7 a8 a9 a10 a11 a12 a13 a14:Option D),ρ=eW X (some (.int (h:Int))) (some (.int (w:Int))) (some RS) (some (pD is)) (some (pD js)) (some (.lst (ks.map dKp))) a7 a8 a9 a10 a11 a12 a13 a14/\RP O' is P/\RP O' js P/\SP L P h/\Kp O' h w ks/\ks.length=k) (cZ 5 N) 0 (eW X (some (.int (h:Int))) (some (.int (w:Int))) (some RS) (some (pD (ids 0 h))) (some (pD (ids O1.length h))) (some (.lst [])) none none none none none none none none) O2
  ⟨_,_,P0 h w,[],_,_,_,_,_,_,_,_,rfl,p4,⟨_,_,n5⟩,sp0,λx hx=>(nomatch hx),rfl⟩ (by
   rintro i d ρ O' hi ⟨is,js,P,ks,a7,a8,a9,a10,a11,a12,a13,a14,rfl,g1,g2,g3,g4,g5⟩;obtain⟨hiN,rfl⟩:=Qym hi;obtain⟨O'',is',js',P',ks',b8,b9,b10,b11,b12,b13,b14,k1,k2,k3,k4,k5,k6⟩:=turn xs h w h6 w2 w40 R rs0 hL (5+i) (by omega) g1 g2 g3 g4 (by omega) a8 a9 a10 a11 a12 a13 a14;rw[<-hX,<-hRS] at k6
   exact⟨_,rfl,_,_,.inl k6,is',js',P',ks',some (.int ((5+i:Nat):Int)),b8,b9,b10,b11,b12,b13,b14,rfl,k1,k2,k3,k4,by omega⟩)
 rw[lH,zC] at g5;refine⟨O7,?_⟩;show bx (aB L1' (aB L2' (aB L3' (aB L4' (aB L5' (aB L6' (aB L7' L8')))))) (eW X none none none none none none none none none none none none none none) [])=_;rw[sq s1,sq s2,sq s3,sq s4,sq s5,sq s6];unfold L7';rw[bD,gf,hN2,gh,e7,bB];unfold L8';rw[gR,QtZ g4 (by omega) rfl];rfl
theorem all_mk{l:PySem.W.OpenLaw}{w:World}{K:PySem.W.Frag}{h:Heap}{mg:Str->Option Value}{fa:Addr}(X:K.In h)(G:h.Ns mainGlobals mg)(hfa:mg "law" = some (.ref fa))
  {kI:Addr}
  {DK:Addr}{QuH Mi:Option Addr}{Qu4:Array (Option Value)}{QuQ Mj Ml Mm DN Mp:Value}
  {ad_BLANK_CELL:Addr}{Mq:Value}{Qk5:Option Addr}{it_BLANK_CELL:Array Value}{nn_BLANK_CELL:Nat}{Qk3:Array (Option Value)}
  (Z_Change:ClsAt K "Change" kI)
  (Qkm:PySem.W.findIn K (.ref kI) "alike" = some none)
  (QhJ:PySem.W.findIn K (.ref kI) "stretches" = some none)
  (yN:Def K mg "cost_over" yL)
  (yP:Def K mg "least_cost" qY)
  (M_Change_nodes_at:MethAt K kI "nodes_at" "Change.nodes_at" yQ)
  (M_Change_moves_from:MethAt K kI "moves_from" "Change.moves_from" yS)
  (M_Change_is_end:MethAt K kI "is_end" "Change.is_end" yW)
  (z8:Def K mg "price_nodes" z7)
  (M_Change_last_at:MethAt K kI "last_at" "Change.last_at" Aa)
  (Ae:Def K mg "priced" Ac)
  (Ah:Def K mg "first_cheapest" uT)
  (M_Change_first_node:MethAt K kI "first_node" "Change.first_node" Ai)
  (Al:Def K mg "way_of" Ak)
  (Ar:Def K mg "letter_stretches" uX)
  (M_Change___init__:MethAt K kI "__init__" "Change.__init__" uZ)
  (Ay:Def K mg "row_writes" Aw)
  (Bc:Def K mg "patch" Bb)
  (Be:Def K mg "patched" vg)
  (Bf:Def K mg "cost_of" vm)
  (Bj:Def K mg "width_of" Bg)
  (Bm:Def K mg "shown_ink" Bk)
  (Bo:Def K mg "look" vo)
  (Bq:Def K mg "blank" vq)
  (Bt:Def K mg "line_cells" Br)
  (By:Def K mg "drawn_row" Bw)
  (BK:Def K mg "drawn" vC)
  (BX:Def K mg "_law_cell" BR)
  (Cd:Def K mg "_law_mix" BZ)
  (m5:Def K mg "_law_alike" vH)
  (Cg:Def K mg "_law_copy" vI)
  (Cj:Def K mg "_law_rooms" Ci)
  (Cm:Def K mg "_law_stream" Ck)
  (Cr:Def K mg "_law_line" Cq)
  (Cy:Def K mg "_law_formed" Cw)
  (DP:PySem.W.nsIn K mainGlobals "law" = some (some (.ref DK))) (Mr:K.lookup DK=some ⟨QuQ,QuH,.func (PySem.W.fnOf "law" "law" (g8 iz) (eU iz) (aY iz) .none Mj Ml Mm Mi DN Mp),Qu4⟩) (Qvp:PySem.W.codeIn K DN "law" = true) (Qw5:PySem.W.keepIn K (.ref DK)=true)
  (B:cg mg)
  (NK:bM K=true)
  (QjY:PySem.W.nsIn K mainGlobals "BLANK_CELL" = some (some (.ref ad_BLANK_CELL))) (QjZ:K.lookup ad_BLANK_CELL=some ⟨Mq,Qk5,.seq it_BLANK_CELL nn_BLANK_CELL,Qk3⟩) (t_c_BLANK_CELL:Mq=.type "tuple") (Qkr:it_BLANK_CELL.size<=sizeLine) (v_c_BLANK_CELL:aR (List.map (λl=>V.str (S l)) [[32],[46],[46]]) it_BLANK_CELL.toList)
  (vA:∃u,mg "BROAD" = some u/\RelV (.int 4) u)
  (vB:∃u,mg "LEFT" = some u/\RelV (.int 2) u)
  (BL:∃u,mg "TALL" = some u/\RelV (.int 3) u)
  (vG:∃u,mg "TOP" = some u/\RelV (.int 1) u)
  (oK:∃u,mg "WRITE_COST" = some u/\RelV (.int 4) u):
  ∃fd:FuncData,(∀(s:Shared) (v:Value),BindsTo s fd ⟨[v],[]⟩ [("_law_script",v)])/\∀base:Heap,K.In base->base.Ns mainGlobals mg->dJ l.prog w K mg base CX0 8 fa fd ["_law_script"] (sp_law K):=by
 have e:=hfa.symm.trans (PySem.W.mg_of X G DP);cases e;have oM:=Z_Change.kf X G Qkm;have fW:=Z_Change.kf X G QhJ;have yR:=Z_Change.dm X G M_Change_nodes_at;have yV:=Z_Change.dm X G M_Change_moves_from;have yZ:=Z_Change.dm X G M_Change_is_end;have Ab:=Z_Change.dm X G M_Change_last_at;have Aj:=Z_Change.dm X G M_Change_first_node;have Av:=Z_Change.dc X G M_Change___init__;have Cz:Def K mg "law" iz:=⟨_,_,PySem.W.mg_of X G DP,w6 (st:=iz) Mr Qvp Qw5⟩;have oY:um K mg "BLANK_CELL" [[32],[46],[46]]:=⟨ad_BLANK_CELL,_,it_BLANK_CELL,nn_BLANK_CELL,PySem.W.mg_of X G QjY,QjZ,t_c_BLANK_CELL,rfl,Qkr,v_c_BLANK_CELL⟩
 refine⟨PySem.W.fnOf "law" "law" (g8 iz) (eU iz) (aY iz) .none Mj Ml Mm Mi DN Mp,λs v=>.of_eq rfl,λbase _ _=>?_⟩;have oH:=@Xd l.prog w K mg base yN B NK;have oR:=@Xe l.prog w K mg base yP B NK oH;have z9:=@Xg l.prog w K mg base yR B NK;have oN:=@Xh l.prog w K mg base yV B NK oK oM fW;have oO:=@Xj l.prog w K mg base yZ B NK fW;have Ag:=@Xk l.prog w K mg base z8 B NK z9 oN oO oR;have Af:=@Xm l.prog w K mg base Ab B NK fW;have Am:=@Xn l.prog w K mg base Ae B NK Af Ag;have Ao:=@Xo l.prog w K mg base Ah B NK oR oH;have An:=@Xq l.prog w K mg base Aj B NK
 have Az:=@Xr l.prog w K mg base Al B NK Am An oO Ao oN;have oV:=@Xu l.prog w K mg base Ar B NK;have Ba:=@Xw l.prog w K mg base Av B NK fW oM oV;have Bd:=@Xx l.prog w K mg base Ay B NK Az Ba oV;have vN:=@Xy l.prog w K mg base Bc B NK Bd;have CK:=@Xz l.prog w K mg base Be B NK;have CP:=@XD l.prog w K mg base Bf B NK oK;have Bv:=@XH l.prog w K mg base Bj B NK;have Bp:=@XM l.prog w K mg base Bm B NK;have Bu:=@XQ l.prog w K mg base Bo B NK Bp;have vL:=@XS l.prog w K mg base Bq B NK oY;have BJ:=@XX l.prog w K mg base Bt B NK Bu Bv;have BP:=@X3 l.prog w K mg base By B NK oY vA vB BJ
 have vM:=@X4 l.prog w K mg base BK B NK BL vG BP;have jM:=@X5 l.prog w K mg base BX B NK;have iy:=@X6 l.prog w K mg base Cd B NK;have rN:=@X8 l.prog w K mg base m5 B NK;have vO:=@Yc l.prog w K mg base Cg B NK;have CG:=@Yd l.prog w K mg base Cj B NK jM iy;have Cu:=@Ye l.prog w K mg base Cm B NK;have CJ:=@Yg l.prog w K mg base Cr B NK Cu;have CN:=@Yh l.prog w K mg base Cy B NK;have QwK:=@Yj l.prog w K mg base Cz B NK iy jM CG vL CJ vM vN CK rN vO CN CP;obtain⟨f',fd',hm',hk',hb',F',oc',od',osl',lk'⟩:=QwK;have e2:=(PySem.W.mg_of X G DP).symm.trans hm'
 cases e2;have e3:=Mr.symm.trans lk';cases e3;exact F'.imp (U3 QrG)
theorem walk{l:PySem.W.OpenLaw}{q:Program}{loose:List Str}{XP:(Str->Option Value)->Heap->Prop}{YP:World->Heap->Prop}{d:DefRec}{K:Params->PySem.W.Frag}(hn:l.most=some 63)(hdf:d.params.defaults=[])
  (hY:∀(w:World) (h:Heap),YP w h->(K w.params).In h)
  (F:∀(w:World) (mg:Str->Option Value) (fa:Addr) (h:Heap),(K w.params).In h->h.Ns mainGlobals mg->mg d.name=some (.ref fa) ->
   ∃fd:FuncData,(∀(s:Shared) (u:Value),BindsTo s fd ⟨[u],[]⟩ [("_law_script",u)])/\∀base:Heap,(K w.params).In base->base.Ns mainGlobals mg->dJ l.prog w (K w.params) mg base CX0 8 fa fd ["_law_script"] (sp_law (K w.params))):
  PySem.W.WalkO q loose XP YP l.row.toRowW d [] (λf vs=>PySem.call f vs):=
 L2.walk_ofR (n:=63) (k:=8) (x:="_law_script") (CX:=λ_=>CX0) (sp:=λw=>sp_law (K w.params)) hn (by decide) hdf ⟨rfl,by decide,by decide⟩ hY F (λ_ _ a ns hl ho hS=>⟨a,ns,rfl,hS,hl,ho,λ_=>rfl⟩) λ_ _ _ _ _ z=>z
end K76
open PySem PySem.W PyProof.Rows L2
set_option maxRecDepth 100000 in
set_option maxHeartbeats 0 in
theorem PySem.Challenge.cw_outweave_k76_whole_patches_in_a_row_holds : PySem.Challenge.rw_outweave_k76_whole_patches_in_a_row.Holds := by
 w_on;o_law;k_head;(case hw=>w_witness2)
 k_fill
 refine K76.walk (l:=PySem.Challenge.rw_outweave_k76_whole_patches_in_a_row) rfl rfl (λw h Y=>PySem.W.kIn_of Y) ?F
 case F =>
  intro w mg fa h KX G hmg
  refine' K76.all_mk KX G hmg ⟨?x1,?x2,?x3,?x4,?x5,?x6,?x7⟩ ?x8 ?x9 (mkD KX G ?x10 ?x11 ?x12 ?x13) (mkD KX G ?x14 ?x15 ?x16 ?x17) (mkM ?x18 ?x19 ?x20 ?x21 ?x22) (mkM ?x23 ?x24 ?x25 ?x26 ?x27) (mkM ?x28 ?x29 ?x30 ?x31 ?x32) (mkD KX G ?x33 ?x34 ?x35 ?x36) (mkM ?x37 ?x38 ?x39 ?x40 ?x41) (mkD KX G ?x42 ?x43 ?x44 ?x45) (mkD KX G ?x46 ?x47 ?x48 ?x49) (mkM ?x50 ?x51 ?x52 ?x53 ?x54) (mkD KX G ?x55 ?x56 ?x57 ?x58) (mkD KX G ?x59 ?x60 ?x61 ?x62) (mkM ?x63 ?x64 ?x65 ?x66 ?x67) (mkD KX G ?x68 ?x69 ?x70 ?x71) (mkD KX G ?x72 ?x73 ?x74 ?x75) (mkD KX G ?x76 ?x77 ?x78 ?x79) (mkD KX G ?x80 ?x81 ?x82 ?x83) (mkD KX G ?x84 ?x85 ?x86 ?x87) (mkD KX G ?x88 ?x89 ?x90 ?x91) (mkD KX G ?x92 ?x93 ?x94 ?x95) (mkD KX G ?x96 ?x97 ?x98 ?x99) (mkD KX G ?x100 ?x101 ?x102 ?x103) (mkD KX G ?x104 ?x105 ?x106 ?x107) (mkD KX G ?x108 ?x109 ?x110 ?x111) (mkD KX G ?x112 ?x113 ?x114 ?x115) (mkD KX G ?x116 ?x117 ?x118 ?x119) (mkD KX G ?x120 ?x121 ?x122 ?x123) (mkD KX G ?x124 ?x125 ?x126 ?x127) (mkD KX G ?x128 ?x129 ?x130 ?x131) (mkD KX G ?x132 ?x133 ?x134 ?x135) (mkD KX G ?x136 ?x137 ?x138 ?x139) (mkD KX G ?x140 ?x141 ?x142 ?x143) ?x144 ?x145 ?x146 ?x147 ⟨⟨⟨PySem.W.mg_none_of KX G ?x148,PySem.W.mg_none_of KX G ?x149,PySem.W.mg_none_of KX G ?x150,PySem.W.mg_none_of KX G ?x151,PySem.W.mg_none_of KX G ?x152,PySem.W.mg_none_of KX G ?x153,PySem.W.mg_none_of KX G ?x154,PySem.W.mg_none_of KX G ?x155,PySem.W.mg_none_of KX G ?x156,PySem.W.mg_none_of KX G ?x157,PySem.W.mg_none_of KX G ?x158,PySem.W.mg_none_of KX G ?x159,PySem.W.mg_none_of KX G ?x160,PySem.W.mg_none_of KX G ?x161,PySem.W.mg_none_of KX G ?x162⟩,PySem.W.mg_none_of KX G ?x163⟩,PySem.W.mg_none_of KX G ?x164⟩ ?x165 ?x166 ?x167 ?x168 ?x169 ?x170 ⟨_,PySem.W.mg_of KX G ?x171,?x172⟩ ⟨_,PySem.W.mg_of KX G ?x173,?x174⟩ ⟨_,PySem.W.mg_of KX G ?x175,?x176⟩ ⟨_,PySem.W.mg_of KX G ?x177,?x178⟩ ⟨_,PySem.W.mg_of KX G ?x179,?x180⟩
  (case x1 | x2 | x3 | x4 | x5 | x6 | x7 | x8 | x9 | x10 | x11 | x12 | x13 | x14 | x15 | x16 | x17 | x18 | x19 | x20 | x21 | x22 | x23 | x24 | x25 | x26 | x27 | x28 | x29 | x30 | x31 | x32 | x33 | x34 | x35 | x36 | x37 | x38 | x39 | x40 | x41 | x42 | x43 | x44 | x45 | x46 | x47 | x48 | x49 | x50 | x51 | x52 | x53 | x54 | x55 | x56 | x57 | x58 | x59 | x60 | x61 | x62 | x63 | x64 | x65 | x66 | x67 | x68 | x69 | x70 | x71 | x72 | x73 | x74 | x75 | x76 | x77 | x78 | x79 | x80 | x81 | x82 | x83 | x84 | x85 | x86 | x87 | x88 | x89 | x90 | x91 | x92 | x93 | x94 | x95 | x96 | x97 | x98 | x99 | x100 | x101 | x102 | x103 | x104 | x105 | x106 | x107 | x108 | x109 | x110 | x111 | x112 | x113 | x114 | x115 | x116 | x117 | x118 | x119 | x120 | x121 | x122 | x123 | x124 | x125 | x126 | x127 | x128 | x129 | x130 | x131 | x132 | x133 | x134 | x135 | x136 | x137 | x138 | x139 | x140 | x141 | x142 | x143 | x144 | x145 | x146 | x147 | x148 | x149 | x150 | x151 | x152 | x153 | x154 | x155 | x156 | x157 | x158 | x159 | x160 | x161 | x162 | x163 | x164 | x166 | x167 | x171 | x173 | x175 | x177 | x179=>k_is)
  (case x165=>first | kernel_rfl | decide +kernel)
  (case x168=>rfl)
  (case x169=>decide +kernel)
  (case x170=>repeat (first | exact .nil | refine .cons ⟨_,rfl⟩ ?_))
  (case x172 | x174 | x176 | x178 | x180=>exact⟨_,rfl⟩)
