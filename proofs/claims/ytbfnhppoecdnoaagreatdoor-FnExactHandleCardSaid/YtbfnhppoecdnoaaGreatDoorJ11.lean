import Derived.Test.YtbfnhppoecdnoaaGreatDoorJ03
import Derived.Test.YtbfnhppoecdnoaaGreatDoorJ07
set_option maxRecDepth 100000
set_option maxHeartbeats 2000000
set_option linter.defProp false
open Bool renaming false->cA,true->dA
open List renaming length->vA
namespace Go.Proofs.YtbfnhppoecdnoaaGreatDoor
open Go renaming World->eA
open Value renaming string->nA,int->lA,bool->pA
open IntKind renaming i64->mA
open Go.RowKit Tryz
def okM(a:List UInt8)(c:UInt8):Bool:=(97<=c&&c<=122) ||(48<=c&&c<=57) ||decide (0<=Lib.indexByte a c)
def aU(s:gB)(b:Int)(a:gB):Bool:=decide (1<=s.size) &&decide ((s.size:Int)<=b) &&s.data.toList.all (okM a.data.toList)
def aEy(mk:gB)(c:UInt8)(w:eA):dI 173 #[nA mk,.int .u8 (c.toNat:Int)] w (lA mA (Lib.indexByte mk.data.toList c)):=by
 have:=strings_IndexByte mk (c.toNat:Int) w;simpa using this
def CZ{s:gB}{f:UInt8->Bool}{k:Nat}(h:k<s.size):(s.data.toList.take (k+1)).all f=((s.data.toList.take k).all f&&f s[k]):=by
 rw[eT s k h];simp
def aAz{l:List UInt8}{f:UInt8->Bool}{k:Nat}(h:(l.take k).all f=cA):l.all f=cA:=by grind
def aFs(c:UInt8):(97<=c&&c<=122)=decide (97<=(c.toNat:Int)/\(c.toNat:Int)<=122):=by rw[Qb];simp[Df];omega
def aJd(c:UInt8):(48<=c&&c<=57)=decide (48<=(c.toNat:Int)/\(c.toNat:Int)<=57):=by rw[Qb];simp[Df];omega
def MY(s:gB)(a:Int)(mk:gB)(w:eA)(p:s.size<=maxLen):
 dI 132 #[nA s,lA mA a,nA mk] w (pA (aU s a mk)):=by
 unfold maxLen at p;by_cases q:(s.size:Int)<1
 .have HN:xA (aU s a mk=cA):=by show _=_;simp[aU];omega
  go_enter func132,ntmps132;go_wp2;go_ret;exact⟨fB HN.o.symm,rfl⟩
 by_cases r:a<(s.size:Int)
 .have HN:xA (aU s a mk=cA):=by
   show _=_;have:decide ((s.size:Int)<=a)=cA:=by simp;omega
   simp[aU,this]
  go_enter func132,ntmps132;go_wp2;go_ret;exact⟨fB HN.o.symm,rfl⟩
 have HN:xA (aU s a mk=s.data.toList.all (okM mk.data.toList)):=by
  show _=_;have n:1<=s.size:=by omega
  have o:(s.size:Int)<=a:=by omega
  simp[aU,n,o]
 go_enter func132,ntmps132;go_wp2;go_loop [7,8,20] (fun _ _ i=>∃k:Nat,k<=s.size/\i=lA mA k/\(s.data.toList.take k).all (okM mk.data.toList)=dA) (fun _ _ i=>s.size-(intOf i).toNat)
 case atStart=>exact⟨0,Oa _,rfl,by simp⟩
 case round=>
  obtain⟨k,t,rfl,d⟩:=hrel;have c:xA _:=d;clear d;by_cases h:k<s.size
  .have b:=CZ (f:=okM mk.data.toList) h;rw[c.o,Oc,okM,aFs,aJd]at b;have j:xA _:=b;clear b;have l:=fun W=>aEy mk s[k] W;generalize Lib.indexByte mk.data.toList s[k]=u at *;have g:xA _:=l;clear l;go_wp2_with(go_at_call 173;apply aC (g.o _);rintro m rfl);all_goals first
    |(go_ret
      refine⟨fB ?_,rfl⟩;rw[HN.o];refine(aAz (k:=k+1) ?_).symm;rw[j.o];simp at *;omega)
    |(refine⟨⟨k+1,by omega,by go_num,?_⟩,by simp[intOf];omega⟩
      rw[j.o];simp at *;omega)
  go_wp2;go_ret;exact⟨fB (by rw[HN.o,<-c.o,Ra (by simp;omega)]),rfl⟩
def FH(c:UInt8):Bool:=(97<=c&&c<=122) ||(48<=c&&c<=57) ||c==45||c==46
def cL(l:List UInt8):Bool:=l.all FH
def uG(s:gB):Bool:=decide (1<=s.size) &&decide (s.size<=40) &&cL s.data.toList
def gj(l:List UInt8)(c:UInt8):cL (l++[c])=(cL l&&FH c):=by simp[cL]
def qo{l:List UInt8}{k:Nat}(h:cL (l.take k)=cA):cL l=cA:=by grind [cL]
def aGp(c:UInt8):FH c=decide ((97<=(c.toNat:Int)/\(c.toNat:Int)<=122)\/(48<=(c.toNat:Int)/\(c.toNat:Int)<=57)\/(c.toNat:Int)=45\/(c.toNat:Int)=46):=by
 have a:(c==45)=decide (c.toNat=45):=by rw[Qb];simp[<-UInt8.toNat_inj]
 have b:(c==46)=decide (c.toNat=46):=by rw[Qb];simp[<-UInt8.toNat_inj]
 rw[Qb];simp[FH,a,b,Df];omega
def TI(s:gB)(w:eA)(l:s.size<=maxLen):
 dI 111 #[nA s] w (pA (uG s)):=by
 unfold maxLen at l;by_cases c:1<=s.size/\s.size<=40
 .have j:wB (s.size:Int) 1 40=dA:=by unfold wB;simp;omega
  have HN:xA (uG s=cL s.data.toList):=by show uG s=_;simp[uG,c.1,c.2]
  have n:=c.1;have o:=c.2;clear c;go_enter func111,ntmps111;go_wp2_with(go_at_call 48;apply aC (vD _ _ _ _);rintro g rfl);go_loop [3,4] (fun i _=>∃k:Nat,k<=s.size/\i=lA mA k/\cL (s.data.toList.take k)=dA) (fun i _=>s.size-(intOf i).toNat)
  case atStart=>exact⟨0,Oa _,rfl,by simp[cL]⟩
  case round=>
   obtain⟨k,m,rfl,d⟩:=hrel;have b:xA _:=d;clear d j;by_cases f:k<s.size
   .have a:=gj (s.data.toList.take k) s[k];rw[<-eT s k f,b.o,Oc,aGp]at a;have h:xA _:=a;clear a;go_wp2;all_goals first
     |(go_ret
       refine⟨fB ?_,rfl⟩;rw[HN.o];refine(qo (k:=k+1) ?_).symm;rw[h.o,Xe];simp at *;omega)
     |(refine⟨⟨k+1,by omega,by go_num,?_⟩,by simp[intOf];omega⟩
       rw[h.o,Af];simp at *;omega)
   go_wp2;go_ret;exact⟨fB (by rw[HN.o,<-b.o,Ra (by simp;omega)]),rfl⟩
 have j:wB (s.size:Int) 1 40=cA:=by unfold wB;simp;omega
 have HN:xA (uG s=cA):=by show uG s=_;simp[uG];omega
 go_enter func111,ntmps111;go_wp2_with(go_at_call 48;apply aC (vD _ _ _ _);rintro g rfl);go_ret;exact⟨fB HN.o.symm,rfl⟩
theorem gi(c:UInt8):okM [45,46] c=FH c:=by
 have e:decide (0<=Lib.indexByte [45,46] c)=(c==45||c==46):=by
  by_cases h:c=45
  .subst h;rfl
  by_cases a:c=46
  .subst a;rfl
  have b:((45:UInt8)==c)=cA:=by simpa using fun e=>h e.symm
  have d:(c==45)=cA:=by simpa using h
  have f:((46:UInt8)==c)=cA:=by simpa using fun e=>a e.symm
  have g:(c==46)=cA:=by simpa using a
  simp[Lib.indexByte,b,d,f,g]
 rw[okM,FH,e,Bool.or_assoc (_||_)]
def yw(s:gB):aU s 40 ⟨#[45,46]⟩=uG s:=by grind [aU,uG,cL,gi]
def TD(s:gB)(w:eA)(b:s.size<=maxLen):
 dI 291 #[nA s] w (pA (uG s)):=by
 have H:xA _:=fun W=>yw s ▸ MY s 40 ⟨#[45,46]⟩ W b;generalize uG s=R at *;go_enter func291,ntmps291;go_wp2_with fail;apply lK (H.o _);go_wp2;go_ret;exact⟨rfl,rfl⟩
def cP(f:cB):Bool:=uG f.N&&wB f.Y 0 f.data.size
def aHr(b o:Nat)(f:cB)(w:eA)(i:w.cell? ⟨b,o,none⟩=some (nA f.N))(j:w.cell? ⟨b,o+1,none⟩=some (nA f.data))(k:w.cell? ⟨b,o+2,none⟩=some (lA mA f.Y))
(l:f.N.size<=maxLen):
 qD 255 #[.pointer (some ⟨b,o,none⟩)] w (pA (cP f)):=by
 have p:=tB.cells i;have q:=tB.cells j;have r:=tB.cells k;have n:=tB.there w;have g:=fun d=>TD f.N d l;clear i j k l;by_cases c:uG f.N=dA
 .simp only[c]at g;have m:=fun d=>mF f.Y f.data.size d;have E:xA (cP f=wB f.Y 0 f.data.size):=by show cP f=_;simp[cP,c]
  clear c;go_enter func255,ntmps255;go_wp2_with fail;refine jB (by kernel_rfl) (by kernel_rfl) ?_;repeat (go_big_quiet_step (first|(go_at_call 291;exact yC (g _))|(go_at_call 77;exact yC (m _))))
  refine wpQuiet_nil ?_;rintro _ ⟨x,rfl⟩;go_wp2;go_ret;exact⟨fB E.o.symm,x.h⟩
 have a:uG f.N=cA:=by simpa using c
 simp only[a]at g;have E:xA (cP f=cA):=by show cP f=_;simp[cP,a]
 clear c a;go_enter func255,ntmps255;go_wp2_with fail;refine jB (by kernel_rfl) (by kernel_rfl) ?_;repeat (go_big_quiet_step (first|(go_at_call 291;exact yC (g _))))
 refine wpQuiet_nil ?_;rintro _ ⟨x,rfl⟩;go_wp2;go_ret;exact⟨fB E.o.symm,x.h⟩
def pU(a:List cB)(i:Nat):Bool:=
 match a[i]? with
 |none=>dA
 |some f=>cP f&&(match i with
  |0=>dA
  |j+1=>match a[j]? with
   |none=>dA
   |some g=>Op.bytesLess g.N.toList f.N.toList)
def xT(a:List cB)(k:Nat):Bool:=(List.range k).all (pU a)
def zH(a:List cB):Bool:=xT a (vA a)
def CC(a:List cB)(k:Nat):xT a (k+1)=(xT a k&&pU a k):=by simp[xT,List.range_succ]
def AT{a:List cB}{k n:Nat}(h:pU a k=cA)(b:k<n):xT a n=cA:=by grind [pU,xT]
def SD(a:iC)(y:Nat)(c:List cB)(w:eA)(z:eB w a c)(D:pL c)(s:vA c<=maxLen):
 qD 221 #[.slice a (vA c) y] w (pA (decide (vA c<=1000) &&zH c)):=by
 unfold maxLen at s;by_cases V:(1000:Int)<vA c
 .have E:xA ((decide (vA c<=1000) &&zH c)=cA):=by
   show _=_;rw[Ub (by omega)];rfl
  clear z D;go_enter func221,ntmps221;go_wp2;go_ret;exact⟨fB E.o.symm,eD⟩
 have E:xA ((decide (vA c<=1000) &&zH c)=xT c (vA c)):=by
  show _=_;rw[Ac (by omega)];rfl
 have F:xA (eB w a c):=z;have L:xA (pL c):=D;clear z D;go_enter func221,ntmps221;go_wp2;go_loopw [3,9] (fun _ i wr=>∃k:Nat,k<=vA c/\i=lA mA k/\xT c k=dA/\kB w wr) (fun _ i _=>vA c-(intOf i).toNat)
 case atStart=>exact⟨0,Oa _,rfl,rfl,eD⟩
 case round=>
  obtain⟨k,X,rfl,t,d⟩:=hrel;have n:xA (xT c k=dA):=t;clear t;by_cases l:k<vA c
  .obtain ⟨b,o,rfl,W,v,G,H⟩:=(F.o.z d).at l;have u:=L.o k l;have r:=fun x:tB wr=>aHr b (o+k*3) c[k] x.w' (x.cell v) (x.cell G) (x.cell H) u.1;have M:=tB.cells v;have P:=tB.there wr;clear v G H u;by_cases g:cP c[k]=dA
   .simp only[g]at r;by_cases O:(0:Int)<k
    .obtain ⟨U,Y,I,Q,q,R,S⟩:=(F.o.z d).at (i:=k-1) (by omega)
     simp only[Qa,Addr.mk.injEq,Cc]at I;obtain⟨rfl,rfl⟩:=I;have f:pU c k=Op.bytesLess c[k-1].N.toList c[k].N.toList:=by
      obtain⟨j,rfl⟩:∃j,k=j+1:=⟨k-1,by omega⟩
      simp[pU,Va l,Va (show j<vA c by omega),g]
     generalize c[k-1].N=K at q f;generalize c[k].N=J at M f;have N:=tB.cells q;have A:0<k:=by omega
     clear Q R S q g;by_cases B:Op.bytesLess K.toList J.toList=dA
     .have p:xA (xT c (k+1)=dA):=by show xT c (k+1)=dA;rw[CC,n.o,f,B];rfl
      clear f;go_wp2_with fail;refine jB (by kernel_rfl) (by kernel_rfl) ?_;repeat (go_big_quiet_step (first|(go_at_call 255;exact xB (r _))))
      refine wpQuiet_nil ?_;rintro _ ⟨x,rfl⟩;go_wp2;exact⟨⟨k+1,by omega,by go_num,p.o,d.trans (x.h.mono d.size)⟩,by simp[intOf];omega⟩
     have C:Op.bytesLess K.toList J.toList=cA:=by simpa using B
     have p:xA (xT c (vA c)=cA):=AT (by rw[f];exact C) l;clear f B;go_wp2_with fail;refine jB (by kernel_rfl) (by kernel_rfl) ?_;repeat (go_big_quiet_step (first|(go_at_call 255;exact xB (r _))))
     refine wpQuiet_nil ?_;rintro _ ⟨x,rfl⟩;go_wp2;go_ret;exact⟨fB (by rw[E.o,p.o]),d.trans (x.h.mono d.size)⟩
    have f:pU c k=dA:=by
     obtain rfl:k=0:=by omega
     simp[pU,Va l,g]
    have p:xA (xT c (k+1)=dA):=by show xT c (k+1)=dA;rw[CC,n.o,f];rfl
    have A:decide (0<k)=cA:=by simp;omega
    clear f g;go_wp2_with fail;refine jB (by kernel_rfl) (by kernel_rfl) ?_;repeat (go_big_quiet_step (first|(go_at_call 255;exact xB (r _))))
    refine wpQuiet_nil ?_;rintro _ ⟨x,rfl⟩;go_wp2;exact⟨⟨k+1,by omega,by go_num,p.o,d.trans (x.h.mono d.size)⟩,by simp[intOf];omega⟩
   have m:cP c[k]=cA:=by simpa using g
   simp only[m]at r;have f:pU c k=cA:=by simp[pU,Va l,m]
   have p:xA (xT c (vA c)=cA):=AT f l;clear f g m;go_wp2_with fail;refine jB (by kernel_rfl) (by kernel_rfl) ?_;repeat (go_big_quiet_step (first|(go_at_call 255;exact xB (r _))))
   refine wpQuiet_nil ?_;rintro _ ⟨x,rfl⟩;go_wp2;go_ret;exact⟨fB (by rw[E.o,p.o]),d.trans (x.h.mono d.size)⟩
  go_wp2;go_ret;have e:k=vA c:=by omega
  exact⟨fB (by rw[E.o,<-e];exact n.o.symm),d⟩
def rj{c d a b:Value}(e:c=a)(f:d=b):Ending.returned (.tuple #[c,d])=.returned (.tuple #[a,b]):=by rw[e,f]
def vF(t:gB):List cB->Nat->Int
 |[],_=>-1
 |f::r,i=>if (f.N.toList==t.toList)=dA then i else vF t r (i+1)
def TJ(a:iC)(p:Nat)(f:List cB)(c y s v:Int)(u:Bool)(t:gB)(w:eA)(q:eB w a f)(j:vA f<=maxLen):
 qD 68 #[.agg #[.slice a (vA f) p,lA mA c,lA mA y,lA mA s,lA mA v,pA u],nA t] w (lA mA (vF t f 0)):=by
 unfold maxLen at j;have r:xA (eB w a f):=q;clear q;go_enter func68,ntmps68;go_wp2;go_loopw [5,6,10] (fun _ _ i wr=>∃k:Nat,k<=vA f/\i=lA mA k/\vF t f 0=vF t (f.drop k) k/\kB w wr) (fun _ _ i _=>vA f-(intOf i).toNat)
 case atStart=>exact⟨0,Oa _,rfl,rfl,vB⟩
 case round=>
  obtain⟨k,F,rfl,h,d⟩:=hrel;have g:xA _:=h;clear h;by_cases l:k<vA f
  .obtain ⟨b,o,rfl,D,A,B,C⟩:=(r.o.z d).at l;have m:=Cb l;by_cases n:(f[k].N.toList==t.toList)=dA
   .have E:xA (vF t f 0=k):=by show _=_;rw[g.o,m,vF,Ma n]
    clear m;go_wp2;go_ret;exact⟨fD E.o.symm,d.alloc d.size _⟩
   have x:(f[k].N.toList==t.toList)=cA:=by simpa using n
   have E:xA (vF t f 0=vF t (f.drop (k+1)) (k+1)):=by show _=_;rw[g.o,m,vF,Ja n]
   clear m n;go_wp2;exact⟨⟨k+1,by omega,by go_num,E.o,d.alloc d.size _⟩,by simp[intOf];omega⟩
  go_wp2;go_ret;have e:f.drop k=[]:=Ie (by omega);exact⟨fD (by rw[g.o,e];rfl),d⟩
def nV(a:List cB):Prop:=∀i j(b:i<j)(c:j<vA a),Op.bytesLess a[i].N.toList a[j].N.toList=dA
def aGo{a:List cB}{j:Nat}(h:pU a (j+1)=dA)(b:j+1<vA a):Op.bytesLess a[j].N.toList a[j+1].N.toList=dA:=by grind [pU]
def KI{a:List cB}(h:zH a=dA):nV a:=by
 simp only[zH,xT,Ke,Xg]at h;intro i j f b;induction j with
 |zero=>omega
 |succ j d=>
  have c:=aGo (h (j+1) b) b;by_cases e:i=j
  .subst e;exact c
  exact gJ _ _ _ (d (by omega) (by omega)) c
def rU(a:List cB)(t:gB)(i:Nat):Prop:=i<=vA a/\(∀j(h:j<vA a),j<i->Op.bytesLess a[j].N.toList t.toList=dA)/\(∀j(h:j<vA a),i<=j->Op.bytesLess a[j].N.toList t.toList=cA)
def fC(t:gB):List cB->Nat
 |[]=>0
 |f::r=>if Op.bytesLess f.N.toList t.toList=dA then fC t r+1 else 0
def rU.uniq{d:List cB}{t:gB}{i j:Nat}(h:rU d t i)(k:rU d t j):i=j:=by
 rcases Nat.lt_trichotomy i j with c|e|c;have a:=k.2.1 i (by have:=k.1;omega) c;have b:=h.2.2 i (by have:=k.1;omega) (Ia _);rw[a]at b;exact absurd b (by simp);exact e;have a:=h.2.1 j (by have:=h.1;omega) c;have b:=k.2.2 j (by have:=h.1;omega) (Ia _);rw[a]at b;exact absurd b (by simp)
def kI(a:List cB)(t:gB)(i:Nat):Bool:=match a[i]? with
 |none=>cA
 |some f=>f.N.toList==t.toList
def lq{x y:gB}:(tZ x y<0) ↔ Op.bytesLess x.toList y.toList=dA:=by
 unfold tZ;split<;>(try split)<;>simp_all
def aDm{x y:gB}:(tZ x y==0)=(x.toList==y.toList):=by grind [tZ,iH]
def zt(a:iC)(A:Nat)(d:List cB)(t:gB)(w:eA)(I:eB w a d)(n:nV d)(K:vA d<=1048576):
 Calls prog 292 #[.slice a (vA d) A,nA t,.func (.func 293) #[] #[]] w fun e z=>
  ∃i,rU d t i/\e=.returned (.tuple #[lA mA i,pA (kI d t i)])/\kB w z:=by
 have G:xA (eB w a d):=I;have F:xA (nV d):=n;clear I n;go_enter func292,ntmps292;go_wp2;go_loopw [9,10,11] (fun i j _ wr=>∃f l:Nat,i=lA mA f/\j=lA mA l/\f<=l/\l<=vA d/\(∀m(h:m<vA d),m<f->Op.bytesLess d[m].N.toList t.toList=dA)/\
  (∀m(h:m<vA d),l<=m->Op.bytesLess d[m].N.toList t.toList=cA)/\kB w wr) (fun i j _ _=>(intOf j).toNat-(intOf i).toNat)
 case atStart=>exact⟨0,vA d,rfl,rfl,Oa _,Ia _,fun m h k=>absurd k (by omega),fun m h k=>absurd k (by omega),eD⟩
 case round=>
  obtain⟨f,l,rfl,rfl,P,x,q,p,c⟩:=hrel;have v:xA _:=q;have u:xA _:=p;clear q p;by_cases Q:f<l
  .obtain ⟨m,R⟩:∃m:Nat,m=(f+l) / 2:=⟨_,rfl⟩
   have U:((f:Int)+(l:Int)) / 2=(m:Int):=by omega
   have C:f<=m:=by omega
   have S:m<l:=by omega
   have y:m<vA d:=by omega
   clear R;obtain⟨b,o,rfl,O,L,M,N⟩:=(G.o.z c).at y;by_cases r:Op.bytesLess d[m].N.toList t.toList=dA
   .have T:=lq.2 r;have s:xA _:=r;clear r;go_wp2_with fail;apply aC (EK _ _ _ _ _);intro z g;go_wp2;refine⟨⟨m+1,l,by go_num,rfl,by omega,x,fun j J B=>?_,u.o,c.trans (g.mono c.size)⟩,by simp[intOf];omega⟩;by_cases e:j=m
    .subst e;exact s.o
    exact gJ _ _ _ (F.o j m (by omega) y) s.o
   have T:¬tZ d[m].N t<0:=fun h=>r (lq.1 h);have s:xA (Op.bytesLess d[m].N.toList t.toList=cA):=by show _=_;simpa using r
   clear r;go_wp2_with fail;apply aC (EK _ _ _ _ _);intro z g;go_wp2;refine⟨⟨f,m,rfl,rfl,C,by omega,v.o,fun j J B=>?_,c.trans (g.mono c.size)⟩,by simp[intOf];omega⟩;by_cases e:j=m
   .subst e;exact s.o
   rw[Yc];intro h;have:=gJ _ _ _ (F.o m j (by omega) J) h;rw[s.o]at this;exact absurd this (by simp)
  obtain rfl:f=l:=by omega
  have H:xA (rU d t f):=⟨x,v.o,u.o⟩
  by_cases D:f<vA d
  .obtain ⟨b,o,rfl,O,L,M,N⟩:=(G.o.z c).at D;have E:xA ((tZ d[f].N t==0)=kI d t f):=by show _=_;rw[aDm];simp[kI,Va D]
   go_wp2_with fail;apply aC (EK _ _ _ _ _);intro z g;go_wp2;go_ret2;exact⟨f,H.o,rj rfl (Kd Value.bool E.o),c.trans (g.mono c.size)⟩
  have E:xA (kI d t f=cA):=by show _=_;simp[kI,Fd (Nat.not_lt.1 D)]
  go_wp2;go_ret2;exact⟨f,H.o,rj rfl (Kd Value.bool E.o.symm),c⟩
def uX(a:iC)(d:Nat)(b:List cB)(t:gB)(w:eA)(g:eB w a b)(c:nV b)(f:vA b<=1048576):
 Calls prog 256 #[.slice a (vA b) d,nA t] w fun e j=>
  ∃i,rU b t i/\e=.returned (.tuple #[lA mA i,pA (kI b t i)])/\kB w j:=by
 have l:xA (eB w a b):=g;have k:xA (nV b):=c;clear g c;go_enter func256,ntmps256;go_wp2_with fail;refine(zt a d b t _ l.o k.o f).mono ?_;rintro e j ⟨i,h,rfl,n⟩;have m:xA (rU b t i):=h;clear h;go_wp2;go_ret2;exact⟨i,m.o,rfl,n⟩
theorem SH{a:List cB}{t:gB}(p:nV a){i:Nat}(u:rU a t i):vF t a 0=if kI a t i=dA then(i:Int) else -1:=by
 have o:∀(n k:Nat),k+n=vA a->(∀j(h:j<vA a),j<k->(a[j].N.toList==t.toList)=cA)->vF t (a.drop k) k=if kI a t i=dA then(i:Int) else -1:=by
  intro n;induction n with
  |zero=>
   intro k r c;rw[Ie (by omega),vF];rw[Ja];intro h;unfold kI at h;split at h;exact absurd h (by simp)
   rename_i f q;obtain⟨b,rfl⟩:=Pb.1 q;rw[c i b (by omega)]at h;exact absurd h (by simp)
  |succ n w=>
   intro k r c;have b:k<vA a:=by omega
   rw[Cb b,vF];by_cases d:(a[k].N.toList==t.toList)=dA
   .rw[Ma d];have v:rU a t k:=by
     have e:a[k].N.toList=t.toList:=by simpa using d
     refine⟨by omega,fun j l g=>?_,fun j l s=>?_⟩;rw[<-e];exact p j k g b;rw[<-e];by_cases m:j=k
     .subst m;exact iH _
     exact mQ (p k j (by omega) l)
    obtain rfl:=u.uniq v;rw[Ma];simp[kI,Va b,d]
   .rw[Ja d];refine w (k+1) (by omega) fun j l g=>?_;by_cases m:j=k
    .subst m;simpa using d
    exact c j l (by omega)
 have:=o (vA a) 0 (by omega) (fun j _ h=>absurd h (by omega));simpa using this
