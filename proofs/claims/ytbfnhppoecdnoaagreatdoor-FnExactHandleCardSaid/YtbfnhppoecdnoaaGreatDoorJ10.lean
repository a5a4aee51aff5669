import Derived.Test.YtbfnhppoecdnoaaGreatDoorJ06
set_option maxRecDepth 100000
set_option maxHeartbeats 2000000
set_option linter.defProp false
open Option renaming some->bA
open ByteArray renaming empty->kA
open Bool renaming false->cA
open List renaming length->vA
namespace Go.Proofs.YtbfnhppoecdnoaaGreatDoor
open Go renaming TypeId->jA,World->eA
open Value renaming int->lA,slice->oA,string->nA,agg->rA,bool->pA
open IntKind renaming i64->mA
open Go.RowKit Tryz
def ZG{g r:jA}(b:(g=111/\r=82)\/(g=88/\r=83))(n:Nat)(k:n<=1048576)(w:eA):
 (Instr.makeSlice r (lA mA (n:Int)) (lA mA (n:Int))).run prog w=.ok (oA (bA ⟨w.1.size,0,none⟩) n n) (w.alloc (.cells (madeCells #[nA kA,lA mA 0] (n*2)) g)):=by
 have h:(prog.info? g).map (fun i=>(i.zero,i.size,i.bytes))=bA (bA (rA #[nA kA,lA mA 0]),2,24):=by rcases b with⟨rfl,-⟩|⟨rfl,-⟩<;>kernel_rfl
 obtain⟨i,e,a⟩:=Wb.1 h;simp only[Dc]at a;obtain⟨j,f,d⟩:=a;have c:=run_make (P:=prog) w r g i _ (by rcases b with⟨rfl,rfl⟩|⟨rfl,rfl⟩;exact underlying82;exact underlying83) e j .i64 mA n n (by omega) (Xd _) (by rw[d];omega) (by omega);simp only[Hd,f]at c;exact c
def eW(t:jA)(w:eA)(g n:Nat)(b:List dB)(k:Nat):Prop:=∃a:Array Value,w.heap[g]?=bA (.cells a t (0,0))/\a.size=n*2/\
 ∀i(h:i<vA b),i<k->a[i*2]?=bA (nA b[i].s)/\a[i*2+1]?=bA (lA mA b[i].n)
def eW.z{t:jA}{w c:eA}{g n k:Nat}{b:List dB}{B:Nat}(h:eW t w g n b k)(f:Below B w c)(i:g<B):eW t c g n b k:=by
 obtain⟨a,d,e⟩:=h;exact⟨a,by rw[f.block g i];exact d,e⟩
def eW.cells{t:jA}{w:eA}{g n k:Nat}{c:List dB}(h:eW t w g n c k){j:Nat}(e:j<n*2):(∃v,w.cell? ⟨g,j,none⟩=bA v)/\w.frozen? ⟨g,j,none⟩=cA:=by
 obtain⟨a,b,d,_⟩:=h;refine⟨⟨a[j],?_⟩,frozen_of_row w g j a _ b⟩;rw[cell_of_row w g j a _ _ b];exact Qc (by omega)
def eW.step{t:jA}{w:eA}{g n k:Nat}{a:List dB}(h:eW t w g n a k)(p:k<vA a)(q:vA a<=n):
 eW t ((w.setCell ⟨g,k*2,none⟩ (nA a[k].s)).setCell ⟨g,k*2+1,none⟩ (lA mA a[k].n)) g n a (k+1):=by
 obtain⟨d,f,j,l⟩:=h;refine⟨_,heap_setCell_same _ _ _ _ _ _ (heap_setCell_same _ _ _ _ _ _ f),by simp[j],fun i m o=>?_⟩;by_cases e:i=k
 .subst e;refine⟨?_,?_⟩<;>simp[Eb]<;>omega
 obtain ⟨b,c⟩:=l i m (by omega);refine⟨?_,?_⟩;rw[Ea (by omega),Ea (by omega)];exact b;rw[Ea (by omega),Ea (by omega)];exact c
def eW.done{t:jA}{w:eA}{g B:Nat}{b:List dB}(h:eW t w g (vA b) b (vA b))(k:B<=g):mC w B (bA ⟨g,0,none⟩) b:=by
 obtain⟨a,c,l,j⟩:=h;refine La ⟨g,0,a,_,rfl,k,c,fun i d=>?_⟩;obtain⟨e,f⟩:=j i d d;simp only[cell_of_row w g _ a _ _ c,Ya];exact⟨e,f⟩
def aCl{p:FuncId}(d:p=195\/p=196)(f:dB)(left:Int)(w:eA)(i:0<=left)(j:left<=1048576)(c:f.s.size<=maxLen):
 qD p #[rA #[nA f.s,lA mA f.n],lA mA left] w (lA mA (uY left f)):=by
 unfold maxLen at c;obtain⟨a,b⟩:=f;simp only at c |-
 by_cases h:left-a.size<0
 .have e:uY left ⟨a,b⟩= -1:=by unfold uY;rw[Ja];simp only;omega
  rw[e];rcases d with rfl|rfl
  go_enter func195,ntmps195;rotate_left;go_enter func196,ntmps196;all_goals
   go_wp2;go_ret;exact⟨rfl,eD.alloc (Ia _) _⟩
 have e:uY left ⟨a,b⟩=left-a.size:=by unfold uY;rw[Ma];simp only;omega
 rw[e];rcases d with rfl|rfl
 go_enter func195,ntmps195;rotate_left;go_enter func196,ntmps196;all_goals
  go_wp2;go_ret;exact⟨rfl,eD.alloc (Ia _) _⟩
def tv{p:FuncId}(x:p=154\/p=155)(a:iC)(q:Nat)(c:List dB)(left:Int)(w:eA)(G:0<=left)(H:left<=1048576)(r:yB w a c)(u:KB c)(m:vA c<=maxLen):
 qD p #[oA a (vA c) q,lA mA left] w (lA mA (jK left c)):=by
 unfold maxLen at m;by_cases B:left-vA c<0
 .have e:jK left c = -1:=by unfold jK;rw[Ja];omega
  rw[e];clear r u;rcases x with rfl|rfl
  go_enter func154,ntmps154;rotate_left;go_enter func155,ntmps155;all_goals
   go_wp2;go_ret;exact⟨rfl,eD⟩
 have z:xA (yB w a c):=r;have A:xA (KB c):=u;clear r u;rcases x with rfl|rfl
 go_enter func154,ntmps154;rotate_left;go_enter func155,ntmps155;all_goals
  go_wp2;go_loopw [1,5] (fun l i wr=>∃k:Nat,k<=vA c/\i=lA mA k/\(pC (c.take k):Int)<=left-vA c/\l=lA mA (left-vA c-pC (c.take k))/\kB w wr) (fun _ i _=>vA c-(intOf i).toNat)
  case atStart=>exact⟨0,Oa _,rfl,by simp[pC];omega,by simp[pC],eD⟩
  case round=>
   obtain⟨k,J,rfl,t,rfl,d⟩:=hrel;by_cases g:k<vA c
   .obtain ⟨b,o,rfl,I,D,B⟩:=(z.o.z d).at g;have n:=A.o k g;have h:=iK c k g;have C:=uJ c (k+1);by_cases F:((c[k].s.size:Nat):Int)<=left-vA c-pC (c.take k)
    .have e:uY (left-vA c-pC (c.take k)) c[k]=left-vA c-pC (c.take (k+1)):=by
      unfold uY;rw[Ma (by omega),h];omega
     have E:xA _:=e;have j:(pC (c.take (k+1)):Int)<=left-vA c:=by omega
     clear e h;go_wp2_with fail;refine aC (aCl (by simp) c[k] _ _ (by omega) (by omega) n) ?_;intro v f;rw[E.o];go_wp2;exact⟨⟨k+1,by omega,by go_num,j,rfl,d.trans (f.mono d.size)⟩,by simp[intOf];omega⟩
    .have e:uY (left-vA c-pC (c.take k)) c[k]= -1:=by
      unfold uY;rw[Ja (by omega)]
     have E:xA _:=e;have y:xA (jK left c = -1):=by show jK left c = -1;unfold jK;rw[Ja (by omega)]
     clear e h;go_wp2_with fail;refine aC (aCl (by simp) c[k] _ _ (by omega) (by omega) n) ?_;intro v f;rw[E.o];go_wp2;go_ret;exact⟨fD y.o.symm,d.trans (f.mono d.size)⟩
   go_wp2;go_ret;have e:c.take k=c:=Ra (by omega);rw[e]at t |-
   exact⟨fD (by unfold jK;rw[Ma (by omega)]),d⟩
def aQf{p:FuncId}(c:p=197\/p=198)(b:gB)(a:Int)(w:eA):
 qD p #[rA #[nA b,lA mA a]] w (rA #[nA b,lA mA a]):=by
 rcases c with rfl|rfl
 go_enter func197,ntmps197;rotate_left;go_enter func198,ntmps198;all_goals
  go_wp2;exact bodyPost_ret (v:=rA #[nA b,lA mA a]) (by simp[results,results197,results198,go_sem]) rfl ⟨rfl,((eD.alloc (Ia _) _).alloc (by simp) _).alloc (by simp;omega) _⟩
def ui{p:FuncId}(D:p=160\/p=161)(a:iC)(A:Nat)(f:List dB)(w:eA)(B:yB w a f)(q:vA f<=1048576):
 Calls prog p #[oA a (vA f) A] w fun e y=>e=.returned (oA (bA ⟨w.1.size,0,none⟩) (vA f) (vA f))/\mC y w.1.size (bA ⟨w.1.size,0,none⟩) f/\kB w y/\w.1.size<y.1.size:=by
 have C:xA (yB w a f):=B;clear B;rcases D with rfl|rfl;have v:=ZG (r:=82) (.inl ⟨rfl,rfl⟩) (vA f) q;go_enter func160,ntmps160;rotate_left;have v:=ZG (r:=83) (.inr ⟨rfl,rfl⟩) (vA f) q;go_enter func161,ntmps161;all_goals
  go_wp2;go_loopw [4] (fun i wr=>∃k:Nat,k<=vA f/\i=lA mA k/\(∃t,eW t wr w.1.size (vA f) f k)/\kB w wr/\w.1.size<wr.1.size) (fun i _=>vA f-(intOf i).toNat)
  case atStart=>exact⟨0,Oa _,rfl,⟨_,_,heap_alloc_new _ _,size_madeCells _ _,fun i _ h=>absurd h (by omega)⟩,eD.alloc (Ia _) _,by simp⟩
  case round=>
   obtain⟨k,J,rfl,⟨t,m⟩,g,x⟩:=hrel;have l:xA (eW t wr w.1.size (vA f) f k):=m;clear m v;by_cases u:k<vA f
   .obtain ⟨b,o,rfl,I,E,F⟩:=(C.o.z g).at u;go_wp2_with fail;refine aC (aQf (by simp) _ _ _) ?_;intro y s;have n:=l.o.z s x;obtain⟨⟨K,G⟩,c⟩:=n.cells (j:=k*2) (by omega);obtain⟨⟨L,H⟩,d⟩:=n.cells (j:=k*2+1) (by omega);have z:xA (eW t y w.1.size (vA f) f k):=n;clear n;go_wp2;exact⟨⟨k+1,by omega,by go_num,⟨t,z.o.step u (Ia _)⟩,((g.trans (s.mono g.size)).setCell (Ia _) _).setCell (Ia _) _,by have:=s.size;simp;omega⟩,by simp[intOf];omega⟩
   go_wp2;go_ret;have e:k=vA f:=by omega
   exact⟨rfl,by have:=l.o;rw[e]at this;exact this.done (Ia _),g,x⟩
def mr(b a:gB)(c:Int)(w:eA):
 qD 147 #[rA #[nA b,nA a,lA mA c],rA #[nA b,nA a,lA mA c]] w (pA true):=by
 go_enter func147,ntmps147;go_wp2;go_ret;exact⟨rfl,(eD.alloc (Ia _) _).alloc (by simp) _⟩
def dr(a r:iC)(s l:Nat)(d:List cB)(w:eA)(y:eB w a d)(m:eB w r d)(n:vA d<=maxLen):
 qD 91 #[oA a (vA d) s,oA r (vA d) l] w (pA true):=by
 unfold maxLen at n;have z:xA (eB w a d):=y;have q:xA (eB w r d):=m;clear y m;go_enter func91,ntmps91;go_wp2;go_loopw [5] (fun i wr=>∃k:Nat,k<=vA d/\i=lA mA k/\kB w wr) (fun i _=>vA d-(intOf i).toNat)
 case atStart=>exact⟨0,Oa _,rfl,eD⟩
 case round=>
  obtain⟨k,L,rfl,c⟩:=hrel;by_cases p:k<vA d
  .obtain ⟨b,o,rfl,K,t,u,v⟩:=(z.o.z c).at p;obtain⟨G,M,rfl,D,f,g,j⟩:=(q.o.z c).at p;have H:=tB.cells t;have I:=tB.cells u;have J:=tB.cells v;have A:=tB.cells f;have B:=tB.cells g;have C:=tB.cells j;clear t u v f g j;have E:=tB.there wr;go_wp2_with fail;refine jB (by kernel_rfl) (by kernel_rfl) ?_;repeat (go_big_quiet_step (refine xB (mr _ _ _ _)))
   refine wpQuiet_nil ?_;rintro _ ⟨x,rfl⟩;go_wp2;exact⟨⟨k+1,by omega,by go_num,c.trans (x.h.mono c.size)⟩,by simp[intOf];omega⟩
  go_wp2;go_ret;exact⟨rfl,c⟩
def mq(a l:iC)(h d:Nat)(f:List cB)(c k o q:Int)(p:Bool)(w:eA)(r:eB w a f)(i:eB w l f)(j:vA f<=maxLen):
 Calls prog 38 #[rA #[oA a (vA f) h,lA mA c,lA mA k,lA mA o,lA mA q,pA p],rA #[oA l (vA f) d,lA mA c,lA mA k,lA mA o,lA mA q,pA p]] w
  fun e n=>e=.returned (pA true)/\kB w n:=by
 have t:xA (eB w a f):=r;have m:xA (eB w l f):=i;clear r i;go_enter func38,ntmps38;go_wp2_with fail;have b:=fun u v=>((Below.refl w.1.size w).alloc (Ia _) u).alloc (by simp) v;apply aC (dr a l h d f _ (t.o.z (b _ _)) (m.o.z (b _ _)) j);intro n g;obtain⟨x,_⟩:=aBe g;have s:xA (kB w n):=(b _ _).trans (g.mono (by simp;omega));clear b g;go_wp2;go_ret;exact⟨rfl,s.o⟩
structure tI where
 b:Nat
 t:Int
def oD(l:List tI)(i:Nat):tI:=l.getD i ⟨0,0⟩
def sG(l:List tI)(i j:Nat):List tI:=(l.set i (oD l j)).set j (oD l i)
def IG{l:List tI}{i:Nat}(h:i<vA l):oD l i=l[i]:=by simp[oD,List.getD,Va h]
def rD(l:List tI)(i j:Nat):vA (sG l i j)=vA l:=by simp[sG]
theorem zI{l:List tI}{i j:Nat}(a:i<vA l)(b:j<vA l)(k:Nat):oD (sG l i j) k=if k=j then oD l i else if k=i then oD l j else oD l k:=by grind [oD,sG]
def FU{l:List tI}{i j:Nat}(a:i<vA l)(b:j<vA l):(sG l i j).Perm l:=by
 unfold sG;rw[IG a,IG b];exact List.set_set_perm a b
def qJ(l:List tI):Prop:=∀i,0<i->i<vA l->(oD l ((i-1) / 2)).t<=(oD l i).t
def cX(l:List tI)(k:Nat):Prop:=(∀i,0<i->i<vA l->i≠k->(oD l ((i-1) / 2)).t<=(oD l i).t)/\∀i,0<i->i<vA l->(i-1) / 2=k->0<k->(oD l ((k-1) / 2)).t<=(oD l i).t
def qJ.push{l:List tI}(h:qJ l)(x:tI):cX (l++[x]) (vA l):=by grind [qJ,cX,oD]
def cX.done{l:List tI}{k:Nat}(h:cX l k)(a:k=0\/(oD l ((k-1) / 2)).t<=(oD l k).t):qJ l:=by grind [cX,oD,qJ]
def cX.step{l:List tI}{k:Nat}(h:cX l k)(e:k<vA l)(p:0<k)(r:(oD l k).t<(oD l ((k-1) / 2)).t):cX (sG l k ((k-1) / 2)) ((k-1) / 2):=by
 have d:(k-1) / 2<vA l:=by omega
 have o:(k-1) / 2≠k:=by omega
 refine⟨fun i a c j=>?_,fun i a c n m=>?_⟩
 .rw[rD]at c;rw[zI e d,zI e d,Ja j];by_cases b:i=k
  .subst b;rw[Ma rfl,Ma rfl];omega
  rw[Ja b];by_cases f:(i-1) / 2=(k-1) / 2
  .rw[Ma f];have:=h.1 i a c b;rw[f]at this;omega
  rw[Ja f];by_cases g:(i-1) / 2=k
  .rw[Ma g];exact h.2 i a c g p
  rw[Ja g];exact h.1 i a c b
 rw[rD]at c;rw[zI e d,zI e d,Ja (by omega:((k-1) / 2-1) / 2≠(k-1) / 2),Ja (by omega:((k-1) / 2-1) / 2≠k),Ja (by omega:i≠(k-1) / 2)];have q:=h.1 ((k-1) / 2) m d o;by_cases b:i=k
 .rw[Ma b];exact q
 rw[Ja b];have:=h.1 i a c b;rw[n]at this;omega
def wR(l:List tI):Nat->List tI
 |0=>l
 |k+1=>if (oD l (k+1)).t<(oD l (k / 2)).t then wR (sG l (k+1) (k / 2)) (k / 2) else l
def NT{l:List tI}{k:Nat}(a:0<k):wR l k=if (oD l k).t<(oD l ((k-1) / 2)).t then wR (sG l k ((k-1) / 2)) ((k-1) / 2) else l:=by
 obtain⟨j,rfl⟩:∃j,k=j+1:=⟨k-1,by omega⟩
 rw[wR,Nat.add_sub_cancel]
def NV(l:List tI):wR l 0=l:=by rw[wR]
def NR:∀(k:Nat)(l:List tI),k<vA l->cX l k->qJ (wR l k)/\(wR l k).Perm l/\vA (wR l k)=vA l
 |0,l,_,h=>by rw[NV];exact⟨h.done (Ca rfl),Lf _,rfl⟩
 |k+1,l,e,h=>by
  rw[NT (by omega)];by_cases d:(oD l (k+1)).t<(oD l ((k+1-1) / 2)).t
  .rw[Ma d];obtain⟨a,b,c⟩:=NR ((k+1-1) / 2) (sG l (k+1) ((k+1-1) / 2)) (by rw[rD];omega) (h.step e (by omega) d);exact⟨a,b.trans (FU e (by omega)),c.trans (rD _ _ _)⟩
  rw[Ja d];exact⟨h.done (La (by omega)),Lf _,rfl⟩
def aS(l:List tI)(x:tI):List tI:=wR (l++[x]) (vA l)
def FI{l:List tI}(h:qJ l)(x:tI):qJ (aS l x)/\(aS l x).Perm (x::l)/\vA (aS l x)=vA l+1:=by
 obtain⟨a,b,c⟩:=NR (vA l) (l++[x]) (by simp) (h.push x);exact⟨a,b.trans (List.perm_append_singleton x l),by rw[aS,c];simp⟩
def qW{s:gB}(h:¬gb s):TY s=cA:=Ub h
def ZO{s:gB}(h:gb s):TY s=true:=Ac h
def ie(s:gB)(w:eA)(A:s.size<=maxLen):
 dI 104 #[nA s] w (pA (TY s)):=by
 unfold maxLen at A;by_cases b:1<=s.size/\s.size<=64
 .have c:wB (s.size:Int) 1 64=true:=by simp[wB];omega
  have g:xA _:=c;clear c;have t:0<s.size:=by omega
  have o:=b.2;have x:s[0].toNat<256:=s[0].toNat_lt;have a:xA _:=iW s 0 t;by_cases q:48<=s[0].toNat/\s[0].toNat<=57
  .have E:xA (TY s=cA):=qW (fun h=>by
    have:=h.2.2 0 t;unfold DM mZ at this;rw[<-a.o]at this;omega)
   have d:¬((s[0].toNat:Int)<48):=by omega
   have z:¬((57:Int)<(s[0].toNat:Int)):=by omega
   clear q b;go_enter func104,ntmps104;go_wp2_with fail;apply aC (vD _ _ _ _);intro u hw;rw[g.o];replace hw:=hw.symm;subst hw;go_wp2;go_ret;exact⟨fB E.o.symm,rfl⟩
  .have v:xA (¬(48<=xC s 0/\xC s 0<=57)):=by show ¬_;rw[<-a.o];exact q
   have d:(s[0].toNat:Int)<48\/(57:Int)<(s[0].toNat:Int):=by omega
   clear q b;go_enter func104,ntmps104;go_wp2_with fail;apply aC (vD _ _ _ _);intro u hw;rw[g.o];replace hw:=hw.symm;subst hw;go_wp2;all_goals
    go_loop [3,4] (fun i _=>∃j:Nat,j<=s.size/\i=lA mA j/\xA (∀k,k<j->DM s k)) (fun i _=>s.size-(intOf i).toNat)
    case atStart=>exact⟨0,Oa _,rfl,fun k r=>absurd r (by omega)⟩
    case round=>
     obtain⟨j,G,rfl,m⟩:=hrel;by_cases f:j<s.size
     .have y:s[j].toNat<256:=s[j].toNat_lt;have l:xA _:=iW s j f;have n:xA (j=0->¬(48<=s[j].toNat/\s[j].toNat<=57)):=fun e=>by subst e;rw[l.o];exact v.o
      clear d x;by_cases D:s[j].toNat=95
      .have p:((s[j].toNat:Int) != 95)=cA:=by simp;omega
       go_wp2;all_goals
        refine⟨⟨j+1,by omega,by go_num,?_⟩,by simp[intOf];omega⟩;show ∀k,_;intro k r;by_cases e:k=j
        .subst e;unfold DM mZ;rw[<-l.o];omega
        exact m.o k (by omega)
      have p:((s[j].toNat:Int) != 95)=true:=by simp;omega
      go_wp2;all_goals first
       |(go_ret
         refine⟨fB (qW ?_).symm,rfl⟩;intro h;have:=h.2.2 j f;unfold DM mZ RH at this;rw[<-l.o]at this;omega)
       |(refine⟨⟨j+1,by omega,by go_num,?_⟩,by simp[intOf];omega⟩
         show ∀k,_;intro k r
         by_cases e:k=j
         .subst e
          have:=n.o;unfold DM mZ RH;rw[<-l.o];omega
         exact m.o k (by omega))
       |(exfalso;rename_i B;simp at B;omega)
     go_wp2;go_ret;exact⟨fB (ZO ⟨by omega,o,fun i F=>m.o i (by omega)⟩).symm,rfl⟩
 have c:wB (s.size:Int) 1 64=cA:=by simp[wB];omega
 have g:xA _:=c;have E:xA _:=qW (fun h=>b ⟨h.1,h.2.1⟩);clear c b;go_enter func104,ntmps104;go_wp2_with fail;apply aC (vD _ _ _ _);intro u hw;rw[g.o];replace hw:=hw.symm;subst hw;go_wp2;go_ret;exact⟨fB E.o.symm,rfl⟩
def eh(s:gB)(w:eA)(o:s.size<=maxLen):
 dI 272 #[nA s] w (pA (TY s)):=by
 unfold maxLen at o;by_cases d:1<=s.size/\s.size<=64
 .have q:¬((s.size:Int)<1):=by omega
  go_enter func272,ntmps272;go_wp2;apply wp_scope_straight;go_wp2;apply wp_label;go_wp2;go_loop [3,4,20,35] (fun i _ _ _=>∃j:Nat,j<=s.size/\i=lA mA j/\xA (∀k,k<j->DM s k)) (fun i _ _ _=>s.size-(intOf i).toNat)
  case atStart=>exact⟨0,Oa _,rfl,fun k m=>absurd m (by omega)⟩
  case round=>
   obtain⟨j,x,rfl,b⟩:=hrel;by_cases a:j<s.size
   .have n:s[j].toNat<256:=s[j].toNat_lt;have c:xA (s[j].toNat=xC s j):=iW s j a;have l:((j:Int)==(s.size:Int))=cA:=by simp;omega
    by_cases u:s[j].toNat=95
    .have g:((s[j].toNat:Int)==95)=true:=by simp;omega
     go_wp2;all_goals
      refine⟨⟨j+1,by omega,by go_num,?_⟩,by simp[intOf];omega⟩;show ∀k,_;intro k m;by_cases e:k=j
      .subst e;unfold DM mZ;rw[<-c.o];omega
      exact b.o k (by omega)
    have g:((s[j].toNat:Int)==95)=cA:=by simp;omega
    go_wp2;all_goals first
     |(go_ret
       refine⟨fB (qW ?_).symm,rfl⟩;intro h;have:=h.2.2 j a;unfold DM mZ RH at this;rw[<-c.o]at this;omega)
     |(refine⟨⟨j+1,by omega,by go_num,?_⟩,by simp[intOf];omega⟩
       show ∀k,_;intro k m
       by_cases e:k=j
       .subst e
        unfold DM mZ RH;rw[<-c.o];omega
       exact b.o k (by omega))
   have l:((j:Int)==(s.size:Int))=true:=by simp;omega
   go_wp2;go_ret;exact⟨fB (ZO ⟨by omega,by omega,fun i v=>b.o i (by omega)⟩).symm,rfl⟩
 have E:xA (TY s=cA):=qW (fun h=>d ⟨h.1,h.2.1⟩);by_cases r:(s.size:Int)<1
 .clear d;go_enter func272,ntmps272;go_wp2;apply wp_scope_straight;go_wp2;rw[Exit.noGoto_ret];show bodyPost prog f272 _ Exit.ret _ _;go_ret;exact⟨fB E.o.symm,rfl⟩
 have t:(64:Int)<s.size:=by omega
 clear d;go_enter func272,ntmps272;go_wp2;apply wp_scope_straight;go_wp2;rw[Exit.noGoto_ret];show bodyPost prog f272 _ Exit.ret _ _;go_ret;exact⟨fB E.o.symm,rfl⟩
def pE(l:List tI)(k:Nat):Nat:=if 2*k+2<vA l/\(oD l (2*k+2)).t<(oD l (2*k+1)).t then 2*k+2 else 2*k+1
def vL(l:List tI)(k:Nat):pE l k=2*k+1\/pE l k=2*k+2:=by
 unfold pE;split;exact La rfl;exact Ca rfl
def GM{l:List tI}{k i:Nat}(a:0<i)(b:i<vA l)(c:(i-1) / 2=k):pE l k<vA l/\(oD l (pE l k)).t<=(oD l i).t:=by grind [pE,oD]
def lZ(l:List tI)(k:Nat):Prop:=(∀i,0<i->i<vA l->(i-1) / 2≠k->(oD l ((i-1) / 2)).t<=(oD l i).t)/\∀i,0<i->i<vA l->(i-1) / 2=k->0<k->(oD l ((k-1) / 2)).t<=(oD l i).t
def lZ.done{l:List tI}{k:Nat}(h:lZ l k)(f:¬(pE l k<vA l/\(oD l (pE l k)).t<(oD l k).t)):qJ l:=by
 intro i a b;by_cases e:(i-1) / 2=k
 .obtain ⟨d,g⟩:=GM a b e;rw[e];have:¬(oD l (pE l k)).t<(oD l k).t:=fun c=>f ⟨d,c⟩;omega
 exact h.1 i a b e
def lZ.step{l:List tI}{k:Nat}(h:lZ l k)(g:pE l k<vA l)(s:(oD l (pE l k)).t<(oD l k).t):lZ (sG l k (pE l k)) (pE l k):=by
 have u:=vL l k;have b:∀i,0<i->i<vA l->(i-1) / 2=k->(oD l (pE l k)).t<=(oD l i).t:=fun i r d e=>(GM r d e).2;generalize pE l k=c at *;have f:(c-1) / 2=k:=by omega
 have m:k<vA l:=by omega
 refine⟨fun i a d n=>?_,fun i a d o _=>?_⟩
 .rw[rD]at d;rw[zI m g,zI m g,Ja n];by_cases p:i=c
  .subst p;rw[Ma rfl,Ma f];omega
  rw[Ja p];by_cases j:(i-1) / 2=k
  .rw[Ma j,Ja (by omega:i≠k)];exact b i a d j
  rw[Ja j];by_cases q:i=k
  .subst q;rw[Ma rfl];exact h.2 c (by omega) g f a
  rw[Ja q];exact h.1 i a d j
 rw[rD]at d;rw[zI m g,zI m g,f,Ja (by omega:k≠c),Ma rfl,Ja (by omega:i≠c),Ja (by omega:i≠k)];have:=h.1 i a d (by omega);rw[o]at this;exact this
def dO:Nat->List tI->Nat->List tI
 |0,l,_=>l
 |n+1,l,k=>if pE l k<vA l/\(oD l (pE l k)).t<(oD l k).t then dO n (sG l k (pE l k)) (pE l k) else l
def JJ:∀(n m k:Nat)(l:List tI),vA l-k<=n->vA l-k<=m->dO n l k=dO m l k
 |0,0,_,_,_,_=>rfl
 |0,m+1,k,l,b,_=>by
  have:=vL l k;rw[dO,dO,Ja fun h=>by omega]
 |n+1,0,k,l,_,a=>by
  have:=vL l k;rw[dO,dO,Ja fun h=>by omega]
 |n+1,m+1,k,l,b,a=>by
  have c:=vL l k;rw[dO,dO];by_cases h:pE l k<vA l/\(oD l (pE l k)).t<(oD l k).t
  .rw[Ma h,Ma h];exact JJ n m _ _ (by rw[rD];omega) (by rw[rD];omega)
  rw[Ja h,Ja h]
def oP(l:List tI)(k:Nat):List tI:=dO (vA l-k) l k
def an{l:List tI}{k:Nat}(h:pE l k<vA l/\(oD l (pE l k)).t<(oD l k).t):oP l k=oP (sG l k (pE l k)) (pE l k):=by
 have b:=vL l k;obtain⟨n,a⟩:∃n,vA l-k=n+1:=⟨vA l-k-1,by have:=h.1;omega⟩
 unfold oP;rw[a,dO,Ma h];exact JJ _ _ _ _ (by rw[rD];omega) (by rw[rD];omega)
def FP{l:List tI}{k:Nat}(h:¬(pE l k<vA l/\(oD l (pE l k)).t<(oD l k).t)):oP l k=l:=by
 unfold oP;cases vA l-k with
 |zero=>rfl
 |succ n=>rw[dO,Ja h]
def NO:∀(n k:Nat)(l:List tI),vA l-k<=n->k<=vA l->lZ l k->qJ (oP l k)/\(oP l k).Perm l/\vA (oP l k)=vA l
 |0,k,l,g,f,h=>by
  have e:¬(pE l k<vA l/\(oD l (pE l k)).t<(oD l k).t):=fun d=>by
   have:=vL l k;have:=d.1;omega
  rw[FP e];exact⟨h.done e,Lf _,rfl⟩
 |n+1,k,l,g,f,h=>by
  by_cases d:pE l k<vA l/\(oD l (pE l k)).t<(oD l k).t
  .have i:=vL l k;rw[an d];obtain⟨a,b,c⟩:=NO n (pE l k) (sG l k (pE l k)) (by rw[rD];have:=d.1;omega) (by rw[rD];have:=d.1;omega) (h.step d.1 d.2);exact⟨a,b.trans (FU (by have:=d.1;omega) d.1),c.trans (rD _ _ _)⟩
  rw[FP d];exact⟨h.done d,Lf _,rfl⟩
def OJ(l:List tI):List tI:=(sG l 0 (vA l-1)).take (vA l-1)
def wP(l:List tI):List tI:=oP (OJ l) 0
theorem MJ(l:List tI):vA (OJ l)=vA l-1:=by simp[OJ,rD]
theorem aIz{l:List tI}(h:0<vA l){i:Nat}(a:i<vA l-1):oD (OJ l) i=if i=0 then oD l (vA l-1) else oD l i:=by grind [oD,OJ,sG,zI]
def aNy{l:List tI}(h:qJ l)(a:0<vA l):lZ (OJ l) 0:=by grind [qJ,lZ,OJ,MJ,aIz]
def aDy{l:List tI}(h:0<vA l):(oD l 0::OJ l).Perm l:=by
 have c:=FU (l:=l) (i:=0) (j:=vA l-1) h (by omega);have d:(sG l 0 (vA l-1)).length=vA l:=rD _ _ _;have a:(sG l 0 (vA l-1)).drop (vA l-1)=[oD l 0]:=by
  have b:vA l-1<(sG l 0 (vA l-1)).length:=by omega
  rw[Cb b,<-IG b,zI h (by omega),Ma rfl,Ie (by omega)]
 have e:OJ l++[oD l 0]=sG l 0 (vA l-1):=by rw[<-a];exact Za _ _
 exact(List.perm_append_singleton (oD l 0) (OJ l)).symm.trans (e ▸ c)
def oQ{l:List tI}(h:qJ l)(d:0<vA l):qJ (wP l)/\(oD l 0::wP l).Perm l/\vA (wP l)=vA l-1:=by
 obtain⟨a,b,c⟩:=NO (vA (OJ l)) 0 (OJ l) (by omega) (Oa _) (aNy h d);exact⟨a,(b.cons _).trans (aDy d),c.trans (MJ l)⟩
def nk{l:List tI}(h:qJ l):∀(n i:Nat),i<=n->i<vA l->(oD l 0).t<=(oD l i).t
 |0,i,b,_=>by
  obtain rfl:i=0:=by omega
  exact Xd _
 |n+1,i,b,a=>by
  by_cases e:i=0
  .subst e;exact Xd _
  exact Int.le_trans (nk h n ((i-1) / 2) (by omega) (by omega)) (h i (by omega) a)
def aTf{l:List tI}(h:qJ l){x:tI}(b:x∈l):(oD l 0).t<=x.t:=by
 obtain⟨i,a,rfl⟩:=Ib b;have:=nk h i i (Ia _) a;rw[IG a]at this;exact this
