import Derived.Test.YtejebmgbenmimaaGreatDoorJ40
set_option maxRecDepth 100000
set_option maxHeartbeats 8000000
set_option linter.defProp false
open Bool renaming false->gA,true->iA
open ByteArray renaming empty->pA
open Option renaming some->fA,none->eA
open List renaming length->cB
namespace Go.Proofs.YtejebmgbenmimaaGreatDoor
open Go renaming Calls->lA,World->jA,Value->mA
open Ending renaming returned->zA
open Value renaming string->tA,slice->uA,tuple->bB,bool->vA
open Obj renaming cells->aB
open Go.RowKit Tryz
def zf{a:List kB}(h:iG a<=600000):cB a<=maxLen/\∀i(h:i<cB a),cB a[i].M<=maxLen/\cB a[i].Z<=maxLen:=by
 obtain⟨g,j,_⟩:=sN a;have b:=nR (ts:=a) (by omega);refine⟨by unfold maxLen;omega,λi d=>?_⟩;obtain⟨l,m,n,e,f⟩:=b _ (Gb d);exact⟨Ua e (by decide),Ua f (by decide)⟩
section
variable {c:kC} {k:Nat} {N:vC}
theorem aIi(o:VN c)(h:io c k N)(q:k<18):∃d n:Int,IV c N=(⟨⟨GQ (bH N.lsn N.now N.ts) n,1000000,d,0,0,gA⟩,⟨n,n,0⟩,N.now,N.ts,N.lsn,gA,iA⟩,0)/\io c (k+1) ⟨⟨GQ (bH N.lsn N.now N.ts) n,1000000,d,0,0,gA⟩,⟨n,n,0⟩,N.now,N.ts,N.lsn,gA,iA⟩/\1<=n/\n<=90:=by
 obtain⟨K,e,p,a⟩:=aHo o h q;rw[e]at a;obtain⟨m,f,d,g,j,i⟩:=K;obtain rfl:f=1000000:=a.G.c;obtain rfl:g=0:=a.G.cr;obtain rfl:j=0:=a.G.fl;obtain rfl:i=gA:=a.G.dn;obtain rfl:m=_:=p;have r:=h.L.b;rw[h.up,h.deg]at e a;exact⟨d,N.l.last+1,e,a,by omega,by omega⟩
theorem aDm(m:VN c)(h:io c k N)(s:k<20):∃K L f,pZ c N.now N.ts 1=(N.now+1,f,iA)/\fG c N [⟨2,pA,pA,1⟩]=(⟨K,L,N.now+1,f,N.lsn+1,gA,iA⟩,0)/\L.first=N.l.first/\iG f<=600000/\iw c N [⟨2,pA,pA,1⟩]:=by
 have b:=h.w;obtain⟨n,o⟩:=EU m h s (rs:=[⟨2,pA,pA,1⟩]) ⟨Ia _,by simp,by simp[iD],λx t=>by rw[Uf.1 t];exact⟨by simp,La (Ca ⟨rfl,rfl,rfl,by dsimp only;omega⟩)⟩⟩;have p:uJ c.w N.now N.ts 1=(N.now+1,xD c.w (N.now+1) N.ts,iA):=Ja (by omega);have j:oF c N.now N.ts [⟨2,pA,pA,1⟩]=(N.now+1,xD c.w (N.now+1) N.ts,iA):=by
  simp[oF,h.I.st,aG,pE,p]
 rcases aBw m.1 h.b n with⟨q,_⟩|⟨_,_,_,K,L,g,a⟩
 .rw[j]at q;cases q
 rw[j]at a;rw[a]at o;refine⟨K,L,_,by rw[QI h.I.st,p],a,?_,Ua o.I.w (by omega),n⟩;obtain⟨-,-,-,u,z,v,y,r,-,-,i⟩:=ja (show(zH N.d N.l (aN (N.lsn+1) [⟨2,pA,pA,1⟩]) c.sg).2.2=0 by rw[g]);rw[g]at i;rw[(Prod.mk.inj (Prod.mk.inj i).2).1];rcases r with⟨_,_,_,e⟩|⟨_,_,e⟩<;>rw[e]
end
def bl:∀a:List kB,cB a<=(sE a).size
 |[]=>Oa _
 |t::r=>by
  have:=bl r;rw[sE,Ka,yZ,Zb];omega
def aGz{B k:Nat}{a:List kB}{q:vB}(h:k<cB a)(p:∀i(h:i<cB a),sJ a[i])(r:MI a)(s:(sE a++q).size<=1000000):∃t:kB,fB (∀W,RV W B (sE (a.drop k)++q)->lA prog 255 #[.pointer (cC B)] W λe b=>∃M c j d l,e=zA (.agg #[tA t.N,dB t.L,uA c (cB t.M) j,uA d (cB t.Z) l])/\W.1.size<=M/\kD b W.1.size c t.M/\(∀g o,c=fA (iB g o)->g<M)/\kD b M d t.Z/\M<=b.1.size/\RV b B (sE (a.drop (k+1))++q)/\uD B W b)/\fB (a.take (k+1)=a.take k++[t]):=by
 have f:=Kd ByteArray.size (lO (a.take k) (a.drop k));have e:sE (a.drop k)++q=mQ a[k]++(sE (a.drop (k+1))++q):=by
  rw[Cb h,sE,Wa]
 rw[Za]at f;have m:=Kd ByteArray.size e;rw[Ka]at f s m;exact⟨a[k],λW n=>ie (e ▸ n) (p k h) (r k h) (by omega),Pa h⟩
def jh{B:Nat}{lsn c:Int}{d:List kB}{w:jA}(S:RV w B (bH lsn c d))(L:qX lsn d)(m:MI d)(I:xV c)(hs:(bH lsn c d).size<=1000000):
 lA prog 215 #[.pointer (cC B)] w λe P=>∃h H,e=zA (bB #[dB lsn,.agg #[dB c,uA h (cB d) H]])/\cD P w.1.size h d/\uD B w P:=by
 have o:=eB S;have N:=bl d;have e:bH lsn c d=rx++(uB 8 lsn++(uB 8 c++(uB 4 (cB d:Nat)++(sE d++uB 4 (qK (cL lsn c d):Nat))))):=by rw[FN L,cL,AK];simp only[Wa]
 rw[e]at S hs;generalize uB 4 (qK (cL lsn c d):Nat)=q at *;clear e;simp only[Ka,oB]at hs;have G:fB (TG w (w.alloc (aB #[dB 0,uA eA 0 0] 40)) B w.1.size #[dB 0,uA eA 0 0] 40 _):=⟨rB.new _ _ _,uD.of aC,rB.alloc S _⟩
 have y:fB (∀W,RV W B (rx++(uB 8 lsn++(uB 8 c++(uB 4 (cB d:Nat)++(sE d++q)))))->lA prog 254 #[.pointer (cC B),dB 4] W λe P=>e=zA (tA rx)/\RV P B (uB 8 lsn++(uB 8 c++(uB 4 (cB d:Nat)++(sE d++q))))/\uD B W P):=λW h=>by
  have:=QD (n:=4) h (by omega) (by simp only[Ka,oB];omega);rw[qV (n:=4) rfl rfl]at this;exact this
 have z:=gB (λW h=>pv (B:=B) (w:=W) (v:=lsn) (q:=uB 8 c++(uB 4 (cB d:Nat)++(sE d++q))) h ⟨by have:=L.1;omega,by have:=L.2.1;omega⟩ (by simp only[Ka,oB];omega));have A:=gB (λW h=>pv (B:=B) (w:=W) (v:=c) (q:=uB 4 (cB d:Nat)++(sE d++q)) h I (by simp only[Ka,oB];omega));have C:=gB (λW h=>aCb (B:=B) (w:=W) (n:=cB d) (q:=sE d++q) h (by omega) (by rw[Ka];omega));have O:=gB (λk J=>aGz (B:=B) (k:=k) (q:=q) J L.2.2 m (by rw[Ka];omega));have U:cB d<=1000000:=by omega
 clear S hs L m I N;have I:=G.o.T.cell 0;simp only[Xb,Ob]at I;go_enter func215,ntmps215;go_wp2_with fail;apply oC (y.o _ G.o.T);rintro w1 ⟨m,l⟩;replace G:=gB (G.o.call m l o);clear m l y I;go_wp2_with fail;apply oC (z.o _ G.o.T);rintro w2 ⟨m,l⟩;replace G:=gB (G.o.call m l o);clear m l z;go_wp2_with fail;apply oC (A.o _ G.o.T);rintro I ⟨m,l⟩;replace G:=gB (G.o.call m l o);clear m l A;have N:=eB G.o.Z;have X:=gB (rB.new I #[dB c,uA eA 0 0] 40);replace G:=gB (G.o.alloc (aB #[dB c,uA eA 0 0] 40));go_wp2_with fail;apply oC (C.o _ G.o.T);rintro Q ⟨m,l⟩;replace G:=gB (G.o.call m l o);replace X:=gB (X.o.but l (by omega));clear m l C;generalize I.1.size=E at *;go_wp2;go_loopw [17] (λi wr=>∃(k:Nat)(v:mA),k<=cB d/\i=dB k/\fB (TG w wr B w.1.size #[dB 0,uA eA 0 0] 40 (sE (d.drop k)++q))/\fB (rB wr E #[dB c,v] 40)/\fB (jQ wr (E+1) 105 v k (d.take k))) (λi _=>cB d-(intOf i).toNat)
 case atStart=>exact⟨0,_,Oa _,rfl,G.o,X.o,jQ.nil _ _ _⟩
 case round=>
  clear G X;obtain⟨k,v,J,rfl,G,X,R⟩:=hrel;by_cases m:k<cB d
  .obtain ⟨t,P1,F1⟩:=O.o k m;obtain⟨T,ys,p,r,I,J⟩:=R.o;have Y:=gB (⟨r,by have:=Kd List.length r;rw[Xa,Hb]at this;omega,I,J,p.lt⟩:_/\cB ys=k/\_/\_/\_);have m:=gB p;have N:=eB X.o;have N:gD wr E 1 v:=X.o.cell 1;clear p r I J;go_wp2_with fail;go_region_law (first
    |((fail_if_success (have q:=a));refine jF (f:=255) (args:=#[.pointer (fA ⟨B,0,eA⟩)]) rfl (by go_simp) ?_;refine(P1.o _ (rB.z G.o.T jD.drew)).mono ?_;rintro e Q ⟨M,a1,O,a2,Z,rfl,I,J,N,U,W,a,V⟩;have u:uD B wr Q:=(uD.of jD.drew).trans V;have F:=gB (X.o.but u (show E≠B by omega));have x4:=F.o.cell 1;have x5:=(F.o.alloc (aB #[tA t.N,.int .i64 t.L,uA a1 (cB t.M) O,uA a2 (cB t.Z) Z] 105)).cell 1;have O:=gB (⟨I,J,N,U,W⟩:_/\_/\_/\_/\_);clear I J N U W;refine⟨_,rfl,?_⟩)
    |(have q:=a;clear q;refine dS (by rfl) _ _ (by rfl) underlying38 wN rfl (by omega) (by omega) (v:=v) (by rfl) ((jB.but u).row m.o (λg x e=>by have:=(m.o.lt g x).1;omega)) (by rfl) (by rfl) rfl (by simp[mA.oneCell']) (by omega) (by have:=u.size;omega) ?_;intro m H m I U J;have m:=(U.o.blk F.o (λe=>by omega)).cell 1;have b:=(U.o.blk F.o (λe=>by omega)).free 1))
   all_goals
    obtain⟨N,W,m⟩:=oR F.o U.o I.o (Nat.lt_succ_self _) 1;have K:=λg(x:g<Q.1.size)(h:E+1<=g)(s:v.ownBlock≠fA g)=>m.block g x (λe=>e.elim (λe=>by omega) λe=>s e.2);obtain⟨v1,v2,v3,v4,v5⟩:=Y.o;have I:=u.size;go_wp2;exact⟨⟨k+1,_,by omega,by go_num,(G.o.call a u o).turn m (λj e=>by omega) o (Ia _),gB (by simpa using N),gB (by
     rw[F1.o];exact jQ.snoc (wr:=wr) (w4:=Q) (M:=M) (v:=v) (T:=T) (ys:=ys) W v1 v2 v3 v4 (by omega) O.o.1 (λg x l s=>(K g (by omega) l s).trans (u.block g x (by omega))) (λg x Y=>K g Y (by omega) (λe=>by have:=(v5 _ e).2;omega)) O.o.2.1 O.o.2.2.1 O.o.2.2.2.1 (J.o.elim (λh=>Ca ⟨h,(v5 _ h).2⟩) La) I O.o.2.2.2.2)⟩,by simp[intOf];omega⟩
  obtain rfl:k=cB d:=by omega
  rw[Rb]at R;obtain⟨h,rc,rfl⟩:=R.o.row;obtain⟨m,a1⟩:=X.o.c2;obtain⟨m,o⟩:=G.o.Z.c2;have I:=G.o.Z.free;have I:=eB G.o.Z;go_wp2_with fail;go_region
  go_wp2;have D:=λI J=>(((jB.refl (·=w.1.size) wr).setCell (Ca rfl) 0 I).setCell (Ca rfl) 1 J).drew;refine bodyPost_ret (v:=?_) (by simp[results,results215,go_sem,m,o];rfl) rfl ⟨h,rc,rfl,((R.o.turn (D _ _) (λg e=>by omega)).own rfl).mono (by omega),G.o.N.upToD ((D _ _).below (by omega) λq h e=>by omega)⟩
def an(p q r:mA)(w:jA):
 CallsD prog 214 #[p,q,r] .returning w λe c d=>e=zA (bB #[])/\c=.returning/\d=w:=by
 refine callsD_of_wpS func214 rfl λa cs b=>?_;apply wpS_seq;apply wpS_region;simp[wpOpsS,go_sem,recoverD,b,ntmps214,Exit.thenS];refine wpS_cond (t:=gA) (by simp[Act.eval,Array.replicate]) ?_;simp only[Bd,Cf];refine wpS_of_wp (wp_skip ?_);cases a
 simp_all[bodyPostS,results,results214]
structure DS(w W:World)(c:kC)(l n:Int)(v:Value):Prop where
 C:rB W w.1.size #[dB c.w,dB c.tl,dB c.ml,dB c.sh,dB c.ha,dB c.sg] 24
 L:rB W (w.1.size+1) #[dB l] 3
 X:rB W (w.1.size+1+1) #[dB n,v] 40
 Y:rB W (w.1.size+1+1+1) #[vA gA] 4
 B:zB w W
def DS.turn{w W b:jA}{S:Nat->Prop}{c:kC}{l n:Int}{v:mA}(h:DS w W c l n v)(a:jB S W b)(d:∀j,S j->w.1.size+1+1+1<j):DS w b c l n v:=by
 have k:∀j,j<=w.1.size+1+1+1->¬S j:=λj f e=>by have:=d j e;omega
 exact⟨a.blk h.C (k _ (by omega)),a.blk h.L (k _ (by omega)),a.blk h.X (k _ (by omega)),a.blk h.Y (k _ (by omega)),h.B.trans (a.below h.B.size λj f=>k j (by omega))⟩
def DS.new(w:jA)(c:kC)(s:vB):DS w (((((w.alloc (aB #[dB c.w,dB c.tl,dB c.ml,dB c.sh,dB c.ha,dB c.sg] 24)).alloc (aB #[dB 0] 3)).alloc (aB #[dB 0,uA eA 0 0] 40)).alloc (aB #[vA gA] 4)).alloc (aB #[tA s,vA gA] 181)) c 0 0 (uA eA 0 0)/\RV (((((w.alloc (aB #[dB c.w,dB c.tl,dB c.ml,dB c.sh,dB c.ha,dB c.sg] 24)).alloc (aB #[dB 0] 3)).alloc (aB #[dB 0,uA eA 0 0] 40)).alloc (aB #[vA gA] 4)).alloc (aB #[tA s,vA gA] 181)) (w.1.size+1+1+1+1) s:=by
 have a:=rB.new (w.alloc (aB #[dB c.w,dB c.tl,dB c.ml,dB c.sh,dB c.ha,dB c.sg] 24)) #[dB 0] 3;have b:=rB.new ((w.alloc (aB #[dB c.w,dB c.tl,dB c.ml,dB c.sh,dB c.ha,dB c.sg] 24)).alloc (aB #[dB 0] 3)) #[dB 0,uA eA 0 0] 40;have d:=rB.new (((w.alloc (aB #[dB c.w,dB c.tl,dB c.ml,dB c.sh,dB c.ha,dB c.sg] 24)).alloc (aB #[dB 0] 3)).alloc (aB #[dB 0,uA eA 0 0] 40)) #[vA gA] 4;have e:=rB.new ((((w.alloc (aB #[dB c.w,dB c.tl,dB c.ml,dB c.sh,dB c.ha,dB c.sg] 24)).alloc (aB #[dB 0] 3)).alloc (aB #[dB 0,uA eA 0 0] 40)).alloc (aB #[vA gA] 4)) #[tA s,vA gA] 181;exact⟨⟨((((rB.new _ _ _).alloc _).alloc _).alloc _).alloc _,by simpa using ((a.alloc _).alloc _).alloc _,by simpa using (b.alloc _).alloc _,by simpa using d.alloc _,xB (xB (xB (xB aC aC) aC) aC) aC⟩,by unfold RV ZW;simpa using e⟩
def DS.set{w W:jA}{c:kC}{l n l' n':Int}{v v':mA}(h:DS w W c l n v):DS w (((W.setCell (iB (w.1.size+1) 0) (dB l')).setCell (iB (w.1.size+1+1) 0) (dB n')).setCell (iB (w.1.size+1+1) 1) v') c l' n' v':=by
 have a:=(jB.refl (·=w.1.size+1) W).setCell (Ca rfl) 0 (dB l');have b:=λV:jA=>((jB.refl (·=w.1.size+1+1) V).setCell (Ca rfl) 0 (dB n')).setCell (Ca rfl) 1 v';have f:=h.L.set 0 (dB l');have g:=((a.blk h.X (by omega)).set 0 (dB n')).set 1 v';have d:=h.B.size;exact⟨(b _).blk (a.blk h.C (by omega)) (by omega),(b _).blk (by simpa using f) (by omega),by simpa using g,(b _).blk (a.blk h.Y (by omega)) (by omega),(h.B.trans (a.below d λj i e=>by omega)).trans ((b _).below (by simpa using d) λj i e=>by omega)⟩
def aDg(c:kC)(b:Int)(a:nC)(f:Nat)(d:List kB)(w:jA)(n:uC w a d)(i:cB d+fC d<=1048576)(j:iH w)(p:pC c b d=iA):
 gF 216 #[oE c,.agg #[dB b,uA a (cB d) f]] w (vA iA):=by
 have g:=gB (λW(k:zB w W)=>fZ c b a f d 1900000 W (n.z k) (nO (by omega)).1 (by omega) (j.z k));clear n j;unfold sZ at g;rw[p]at g;unfold oE at *;go_enter func216,ntmps216;go_wp2_with fail;refine(g.o _ (xB aC aC)).mono ?_;rintro e r (⟨h,_⟩|⟨-,l,m,rfl,-,-,i⟩)
 .cases h
 have o:=gB (xB (xB aC aC) i);clear g i;go_wp2;go_ret;exact⟨rfl,o.o⟩
def ta(c:kC)(lsn n:Int)(o:List kB)(w:jA)(M:pC c n o=iA)(Q:qX lsn o)(K:MI o)(I:xV n)(v:(bH lsn n o).size<=1000000)(s:cB o+fC o<=1048576)(H:iH w):
 lA prog 148 #[oE c,tA (bH lsn n o)] w λe R=>∃p m,e=zA (bB #[dB lsn,.agg #[dB n,uA p (cB o) m],vA iA])/\cD R w.1.size p o/\zB w R:=by
 have h:∀(G:Fn)(first m:Array mA)(w:jA),(Instr.makeFunc G first m).run prog w=.ok (.func G first m) w:=λ_ _ _ _=>rfl;have t:=gB (λW B h=>jh (B:=B) (w:=W) h Q K I v);have T:=gB H;have N:=gB (DS.new w c (bH lsn n o));obtain⟨E,_,_,F⟩:=WX s;have u:=gB (λW p m(h:uC W p o)=>JO lsn n p m o W h E (by omega) F);have y:=gB (λW p m(h:uC W p o)(C:iH W)=>aDg c n p m o W h s C M);clear M Q K I v s H E F;unfold oE at *;generalize bH lsn n o=tx at *;go_enter_defers func148,ntmps148;go_wp2_with fail;refine(t.o _ (w.1.size+1+1+1+1) N.o.2).mono ?_;rintro e z ⟨p,m,rfl,J,s⟩;have X:=gB (N.o.1.turn (jB.but s) (λj e=>by omega));have O:fB (cD z (w.1.size+1+1+1+1+1) p o):=gB (by simpa using J);have C:=X.o.L.cell 0;obtain⟨G,I⟩:=X.o.X.c2;have i:=X.o.L.free;have k:=X.o.X.free;clear s t N J;go_wp2_with fail;replace X:=gB (X.o.set (l':=lsn) (n':=n) (v':=uA p (cB o) m));have P:=(((jB.refl (·<w.1.size+1+1+1) z).setCell (g:=w.1.size+1) (Ca (by omega)) 0 (dB lsn)).setCell (g:=w.1.size+1+1) (Ca (by omega)) 0 (dB n)).setCell (g:=w.1.size+1+1) (Ca (by omega)) 1 (uA p (cB o) m);replace O:=gB (O.o.turned P (λg h _ e=>by omega));clear C G I i k P;generalize ((z.setCell (iB (w.1.size+1) 0) (dB lsn)).setCell (iB (w.1.size+1+1) 0) (dB n)).setCell (iB (w.1.size+1+1) 1) (uA p (cB o) m)=m at *;apply oC (u.o _ _ _ O.o.tens);intro m q;replace X:=gB (X.o.turn (S:=λ_=>False) (jB.of q) (λj e=>e.elim));replace O:=gB (O.o.z q);obtain⟨U,V,Z,m,o,C⟩:=X.o.C.c6;obtain⟨A,D⟩:=X.o.X.c2;clear q u;go_wp2_with fail;apply oC (y.o _ _ _ O.o.tens (T.o.z X.o.B));intro G r;replace X:=gB (X.o.turn (S:=λ_=>False) (jB.of r) (λj e=>e.elim));replace O:=gB (O.o.z r);clear r U V Z m o C A D;obtain⟨A,D⟩:=X.o.X.c2;go_wp2_with fail;have m:=X.o.L.cell 0;have o:=X.o.Y.cell 0;have i:=X.o.L.free;have k:=X.o.X.free;have l:=X.o.Y.free;refine tD (ET _ _) ?_;go_wp2_with fail;go_region
 go_wp2;refine leaves_cons (f:=214) (args:=#[.pointer (cC (w.1.size+1)),.pointer (cC (w.1.size+1+1)),.pointer (cC (w.1.size+1+1+1))]) (by simp) (by simp[go_sem]) ?_;refine(an _ _ _ _).mono ?_;rintro e C C ⟨rfl,rfl,rfl⟩;simp[Leaves,settle,results,results148,go_sem,m,A,D,o];have x:=λa b c d=>((((jB.refl (λg=>w.1.size<=g/\g<w.1.size+1+1+1+1) G).setCell (g:=w.1.size+1) (Ca (by omega)) 0 a).setCell (g:=w.1.size+1+1) (Ca (by omega)) 0 b).setCell (g:=w.1.size+1+1) (Ca (by omega)) 1 c).setCell (g:=w.1.size+1+1+1) (Ca (by omega)) 0 d;have v:=X.o.B.size;first
  |exact⟨(O.o.turned (x _ _ _ _) (λg h _ e=>by omega)).mono (by omega),X.o.B.trans ((x _ _ _ _).below v λj m e=>by omega)⟩
  |exact⟨(O.o.turned (x _ _ _ _).drew (λg h _ e=>by omega)).mono (by omega),X.o.B.trans ((x _ _ _ _).drew.below v λj m e=>by omega)⟩
section
open Go.Maps
structure CB(w W:World)(c:kC)(n:Int)(v:Value):Prop where
 C:rB W w.1.size #[dB c.w,dB c.tl,dB c.ml,dB c.sh,dB c.ha,dB c.sg] 24
 S:rB W (w.1.size+1) #[dB n,v] 40
 B:zB w W
section
variable {w W W':jA} {c:kC} {n n':Int} {v v':mA}
theorem CB.new:CB w ((w.alloc (aB #[dB c.w,dB c.tl,dB c.ml,dB c.sh,dB c.ha,dB c.sg] 24)).alloc (aB #[dB n,v] 40)) c n v:=
 ⟨(rB.new _ _ _).alloc _,by have:=rB.new (w.alloc (aB #[dB c.w,dB c.tl,dB c.ml,dB c.sh,dB c.ha,dB c.sg] 24)) #[dB n,v] 40;simpa using this,xB aC aC⟩
theorem CB.z(h:CB w W c n v)(a:zB W W'):CB w W' c n v:=⟨h.C.z a,h.S.z a,xB h.B a⟩
theorem CB.cells(h:CB w W c n v):W.cell? (iB w.1.size 0)=fA (dB c.w)/\W.cell? (iB w.1.size 1)=fA (dB c.tl)/\W.cell? (iB w.1.size 2)=fA (dB c.ml)/\W.cell? (iB w.1.size 3)=fA (dB c.sh)/\W.cell? (iB w.1.size 4)=fA (dB c.ha)/\W.cell? (iB w.1.size 5)=fA (dB c.sg):=
 ⟨h.C.cell 0,h.C.cell 1,h.C.cell 2,h.C.cell 3,h.C.cell 4,h.C.cell 5⟩
theorem CB.scells(h:CB w W c n v):W.cell? (iB (w.1.size+1) 0)=fA (dB n)/\W.cell? (iB (w.1.size+1) 1)=fA v/\W.frozen? (iB (w.1.size+1) 0)=gA/\W.frozen? (iB (w.1.size+1) 1)=gA/\w.1.size+1<W.1.size:=
 ⟨h.S.cell 0,h.S.cell 1,h.S.free 0,h.S.free 1,eB h.S⟩
theorem CB.put(h:CB w W c n v):CB w ((W.setCell (iB (w.1.size+1) 0) (dB n')).setCell (iB (w.1.size+1) 1) v') c n' v':=by
 have a:jB (·=w.1.size+1) W ((W.setCell (iB (w.1.size+1) 0) (dB n')).setCell (iB (w.1.size+1) 1) v'):=((jB.refl (·=w.1.size+1) W).setCell (Ca rfl) 0 _).setCell (Ca rfl) 1 _;exact⟨a.blk h.C (by omega),by have:=(h.S.set 0 (dB n')).set 1 v';simpa using this,h.B.trans (a.below h.B.size λk b e=>by omega)⟩
end
def aLc{m w:jA}{B P D:Nat}{K:eE}{L:aI}{lsn i n:Int}{j:List kB}(c:kC)(h:xO m w B P D K L)(m:K.fs=GQ (bH lsn i j) n)(S:pC c i j=iA)(U:qX lsn j)(Y:MI j)(Z:xV i)(hz:(bH lsn i j).size<=1000000)(y:cB j+fC j<=1048576)(M:iH w):
 lA prog 81 #[.pointer (cC P),oE c] w λe q=>CkX c lsn i j w e q:=by
 obtain⟨d,f,_⟩:=nH h.valid;obtain⟨v,F⟩:=h.drive;obtain⟨a,I,rfl,O⟩:=F.files;have C:GA K.fs FZ (bH lsn i j,((bH lsn i j).size:Int)):=⟨_,by rw[m];exact Kc ..,rfl,rfl⟩
 obtain⟨G,e1,e2,e3⟩:=JI (kS d) C;obtain⟨b,o,rfl,N,g0,J,g2⟩:=O.at G;rw[(Prod.mk.inj e2).1]at J;have G:=gB (λW(s:zB w W)=>uN (fA (iB b o)) I K.fs FZ W (O.z s) (kS d) (by omega));rw[e3]at G;have r:=gB (λW(s:zB w W) a p(ht:uC W a j)=>fZ c i a p j 1900000 W ht (nO (by omega)).1 (by omega) (M.z s));have x:=gB (λW(s:zB w W)=>ta c lsn i j W S U Y Z hz y (M.z s));have k:=gB (show ∀W,zB w W->gD W P 0 (.pointer (cC D))/\gD W D 4 (uA (fA (iB b o)) (cB K.fs) I)/\gD W b (o+gC FZ K.fs*3+1) (tA (bH lsn i j)) from λW s=>⟨((h.z s).wr.cells).1,(F.z s).cell4,(s.cell N).trans J⟩);have hDl:=eB F.blk;have hPl:=eB h.wr;obtain⟨c0,d4,e5⟩:=k.o w jD;unfold sZ at r;rw[S]at r;clear h F O C e1 e2 e3 e5 g0 J g2 d f S U Y Z hz y M m;unfold oE at *;generalize bH lsn i j=tx at *;generalize gC FZ K.fs=h at *;generalize cB K.fs=m at *;go_enter func81,ntmps81;go_wp2_with fail;apply oC (G.o _ CB.new.B);intro w1 z;have Q:=gB ((CB.new (w:=w) (c:=c) (n:=0) (v:=uA eA 0 0)).z z);obtain⟨T,U,V,X,Y,Z⟩:=Q.o.cells;obtain⟨J,O,z2⟩:=k.o w1 Q.o.B;clear z G c0 d4;go_wp2_with fail;go_region_held3 (λq=>(q.cell? (iB w.1.size 0)=fA (dB c.w)/\q.cell? (iB w.1.size 1)=fA (dB c.tl)/\q.cell? (iB w.1.size 2)=fA (dB c.ml)/\q.cell? (iB w.1.size 3)=fA (dB c.sh)/\q.cell? (iB w.1.size 4)=fA (dB c.ha)/\q.cell? (iB w.1.size 5)=fA (dB c.sg))/\q.cell? (iB P 0)=fA (.pointer (cC D))/\q.cell? (iB D 4)=fA (uA (fA (iB b o)) m I)/\q.cell? (iB b (o+h*3+1))=fA (tA tx))
  (first|exact⟨u.o.put.cells,k.o _ u.o.put.B⟩|exact⟨u.o.cells,k.o _ u.o.B⟩|exact⟨(Q.o.z jD.drew).cells,k.o _ (Q.o.z jD.drew).B⟩)
  (first|(go_at_call 148;refine(x.o _ (Q.o.z jD.drew).B).mono ?_;rintro e m ⟨H,p,rfl,t,A⟩;have u:=gB ((Q.o.z jD.drew).z A);obtain⟨h,o,G,I,y4⟩:=u.o.scells))
 have E:=gB (u.o.put (n':=i) (v':=uA H (cB j) p));have O6:=gB ((t.turned (((jB.refl (·=w.1.size+1) m).setCell (Ca rfl) 0 (dB i)).setCell (Ca rfl) 1 (uA H (cB j) p)) (λg hg R e=>by have:=Q.o.scells.2.2.2.2;simp at hg;omega)).tens);clear t A h o G I y4 T U V X Y Z J O z2 x k u Q;generalize (m.setCell (iB (w.1.size+1) 0) (dB i)).setCell (iB (w.1.size+1) 1) (uA H (cB j) p)=m at *;obtain⟨T,U,V,X,Y,Z⟩:=E.o.cells;obtain⟨h,o,_,_,_⟩:=E.o.scells;go_wp2_with fail;refine(r.o _ E.o.B _ _ O6.o).mono ?_;rintro e w2 m;obtain⟨e,_⟩|⟨_,l,m,rfl,_,R,y⟩:=m
 .cases e
 have m:=gB R;have G:=gB y;clear R y r T U V X Y Z h o;go_wp2;go_ret2;exact pd E.o.B G.o m.o
end
section
open Go.Maps
attribute [local go_sem] lG jH uK rB.drewI dL.drewI dL.new dL.alloc dL.alloc2
def UR{y w:jA}{B P D:Nat}{K L:eE}{M:aI}{lsn a:Int}{z:List kB}(c:kC)(h:xO y w B P D K lg0)(r:K.dn=gA)(O:bL K (nN K.fs)=(K,0))(q:∀W,xO y W B P D K lg0->lA prog 81 #[.pointer (cC P),oE c] W λe b=>CkX c lsn a z W e b)(u:∀W,xO y W B P D K lg0->lA prog 82 #[.pointer (cC P)] W λe b=>e=zA (bB #[uA eA 0 0,.nilIface])/\xO y b B P D L M/\∀X h l m,P<X->rB W h #[.pointer (cC l),dB lsn] 84->jE W (λg=>X<=g/\g≠h) l m c a z 1900000->rB b h #[.pointer (cC l),dB lsn] 84/\jE b (λg=>X<=g/\g≠h) l m c a z 1900000):
 lA prog 22 #[.pointer (cC P),oE c] w λe b=>(∃h l m,e=zA (bB #[.pointer (cC h),.nilIface])/\rB b h #[.pointer (cC l),dB lsn] 84/\jE b (λg=>w.1.size<g/\g≠h) l m c a z 1900000)/\xO y b B P D L M:=by
 have Y:gD w D 3 (vA gA):=by rw[<-r];obtain⟨v,G⟩:=h.drive;exact G.blk.cell 3
 have Z:D<w.1.size:=by obtain⟨v,G⟩:=h.drive;exact eB G.blk
 have o:=eB h.wr;obtain⟨V,_,_,_⟩:=h.wr.cells;have o:=uF w (aB #[dB c.w,dB c.tl,dB c.ml,dB c.sh,dB c.ha,dB c.sg] 24);have k:=gB (bj (h.z o) O);have I:=gB (rB.new w #[dB c.w,dB c.tl,dB c.ml,dB c.sh,dB c.ha,dB c.sg] 24);have E:=gB (Vc q u);clear h r O q u;unfold oE at *;go_enter func22,ntmps22;go_wp2_with fail;apply oC k.o;rintro w1 ⟨j,s⟩;have N:=gB j;have A:=gB (s.blk I.o (by decide) (by decide));have H:=eB A.o;have f:=gB (E.o.1 _ j);unfold CkX at f;obtain⟨G,O,U,W,Z,x5⟩:=A.o.c6;clear j s k V Y I o;go_wp2_with fail;refine f.o.mono ?_;rintro e w2 ⟨h,l,m,rfl,F,p,d,n⟩;have J:=gB (E.o.2 _ (N.o.z n));have C:=gB (Vc p d);clear F p d n f G O U W Z x5 A;go_wp2_with fail;apply oC J.o;rintro o ⟨x,t⟩;have U:=gB x;obtain⟨R,S⟩:=t _ h l m (by omega) C.o.1 C.o.2;have T:=gB (Vc R (S.re (B':=λg=>w.1.size<g/\g≠h) λg _ Q=>⟨rfl,Bb H Q.1,Q.2⟩));clear x t R S J C N E;go_wp2_with fail;go_loopw [11,45] (λ_ i wr=>i=dB 0/\wr=o) (λ_ i _=>0-(intOf i).toNat)
 case atStart=>exact⟨rfl,rfl⟩
 case round=>
  obtain⟨rfl,rfl⟩:=hrel;go_wp2;go_ret2;exact⟨⟨h,l,m,rfl,T.o⟩,U.o⟩
def TJ(c:kC)(a:nC)(ca:Nat)(K U:eE)(t:aI)(lsn r:Int)(z:List kB)(w:jA)(Z:mH c=iA)(k:kI w)(I:wB w a K.fs)(o:DG K.fs)(O:rE K.fs K.c K.k K.cr K.fl=iA)(h:cB z+fC z<=1048576)(G:∀J W B P D,zB w J->xO J W B P D K lg0->lA prog 22 #[.pointer (cC P),oE c] W λe w'=>(∃h l m,e=zA (bB #[.pointer (cC h),.nilIface])/\rB w' h #[.pointer (cC l),dB lsn] 84/\jE w' (λg=>W.1.size<g/\g≠h) l m c r z 1900000)/\xO J w' B P D U t):
 lA prog 6 #[oE c,.agg (dkC a ca K)] w λe w'=>MJ ⟨U,t,r,z,lsn,gA,iA⟩ (dB 0) w e w':=by
 have J:=gB (λW=>sT c W);rw[Z]at J;have V:=gB (λW(u:zB w W)=>@qR a ca _ _ _ _ _ K.dn _ O W (I.z u) o.H (by have:=o.len;unfold maxLen;omega) o.sum);have Y:=gB (λW(u:zB w W)=>AH a ca K.fs K.c K.k K.cr K.fl K.dn W (I.z u) o.len);have E:=gB (Vc k (Vc O G));have HSL:=gB (pf λx R=>by obtain⟨f,b,d,i,n⟩:=nR (show cB z+fC z<=1900000 by omega) x R;exact⟨by omega,λp R=>by have:=b p R;omega,λp R=>by have:=d p R;omega,by omega,by omega⟩);clear Z k I o O G;unfold dkC;unfold oE at *;have fz:=cK;go_enter func6,ntmps6;go_wp2_with fail;apply oC (J.o _);intro w1 C;have P:=gB ((O0.new (w:=w) (c:=c) (v0:=uA a (cB K.fs) ca) (v1:=dB K.c) (v2:=dB K.k) (v3:=dB K.cr) (v4:=dB K.fl) (v5:=vA K.dn)).z C);clear C J;obtain⟨k,o,I,J,R,x5,y0,y1,y2,y3,y4,y5,z0,z1,z2,z3,z4,z5,z6⟩:=P.o.cells;go_wp2_with fail;apply oC (V.o _ P.o.B);intro w2 C;replace P:=gB (P.o.z C);clear C V k o I J R x5 y0 y1 y2 y3 y4 y5 z0 z1 z2 z3 z4 z5 z6;obtain⟨k,o,I,J,R,x5,y0,y1,y2,y3,y4,y5,z0,z1,z2,z3,z4,z5,z6⟩:=P.o.cells;go_wp2_with fail;refine(Y.o _ P.o.B).mono ?_;rintro e s ⟨D,v,rfl,G,C⟩;have O:=xB C (uF s (aB #[.pointer (cC D),dB 0,dB 0,dB 0] 73));have Z:xO w2 (s.alloc (aB #[.pointer (cC D),dB 0,dB 0,dB 0] 73)) w2.1.size s.1.size D K lg0:=⟨E.o.1.z P.o.B,O,Ia _,C.size,rB.new _ _ _,⟨v,G.z aC⟩,E.o.2.1⟩
 have P4:=gB (P.o.z O);have hz3:=C.size;have L:=gB (E.o.2.2 _ _ _ _ _ P.o.B Z);unfold oE at L;clear C G O Y k o I J R x5 y0 y1 y2 y3 y4 y5 z0 z1 z2 z3 z4 z5 z6 Z E;obtain⟨k,o,I,J,R,x5,y0,y1,y2,y3,y4,y5,z0,z1,z2,z3,z4,z5,z6⟩:=P4.o.cells;go_wp2_with fail;refine L.o.mono ?_;rintro e A ⟨⟨h,l,m,rfl,hH,hL⟩,G⟩;have W5:=gB G;have O:=gB (P.o.z G.below);obtain⟨v5,T⟩:=G.drive;obtain⟨a5,c5,rfl,Y⟩:=T.files;have a0:=gB (λW(u:zB A W)=>dU D _ a5 _ c5 _ _ _ _ _ W (T.blk.z u));have F5:=gB Y;have hhl:=eB hH;have Z:=gB (λW(u:zB A W)=>UD l m c r _ z 1900000 W (hL.z u) HSL.o (by omega));have m:=gB hH;clear G T L P4 k o I J R x5 y0 y1 y2 y3 y4 y5 z0 z1 z2 z3 z4 z5 z6 hH hL Y;obtain⟨J,R,Y,p3⟩:=W5.o.wr.cells;have k:=eB W5.o.wr;have q0:gD A h 0 (.pointer (cC l)):=m.o.cell 0;have q1:gD A h 1 (dB lsn):=m.o.cell 1;have o:h≠w.1.size+1+1:=λe=>by
  have G:=O.o.R;rw[<-e]at G;have I:=(show A.heap[h]?=_ from m.o).symm.trans G;simp only[Qa,Obj.cells.injEq]at I;exact absurd I.2.1 (by decide)
 have y:=gB (show ∀W X,zB A W->jB (·=w.1.size+1+1) W X->gD X s.1.size 0 (.pointer (cC D))/\gD X s.1.size 1 (dB t.first)/\gD X s.1.size 2 (dB t.last)/\gD X s.1.size 3 (dB t.size)/\gD X h 0 (.pointer (cC l))/\gD X h 1 (dB lsn) from λW X u I=>by
  have G:=P.o.lt;have m:∀j,X.cell? (iB s.1.size j)=A.cell? (iB s.1.size j):=λj=>(jA.cell?_of_block (I.block _ (Bb k u.size) (λe=>by have G:s.1.size=w.1.size+1+1:=e;omega))).trans (u.cell k);have k:∀j,X.cell? (iB h j)=A.cell? (iB h j):=λj=>(jA.cell?_of_block (I.block _ (Bb hhl u.size) o)).trans (u.cell hhl);exact⟨(m _).trans J,(m _).trans R,(m _).trans Y,(m _).trans p3,(k _).trans q0,(k _).trans q1⟩)
 clear fz;go_wp2_with fail;go_region_held3 (λW=>W.cell? (iB s.1.size 0)=fA (.pointer (cC D))/\W.cell? (iB s.1.size 1)=fA (dB t.first)/\W.cell? (iB s.1.size 2)=fA (dB t.last)/\W.cell? (iB s.1.size 3)=fA (dB t.size)/\W.cell? (iB h 0)=fA (.pointer (cC l))/\W.cell? (iB h 1)=fA (dB lsn))
  (first|exact y.o _ _ H (jB.refl _ _)|exact y.o _ _ I (jB.refl _ _)|exact y.o _ _ H (eH _ _ _)|exact y.o _ _ I (eH _ _ _)|exact y.o _ _ jD.drew (jB.refl _ _))
  (first
  |(go_at_call 23;(first|(have q:=H;apply oC (a0.o _ H);intro h F;have I:=xB H F;have k:=(O.o.z I).R.box rfl)|(apply oC (a0.o _ jD.drew);intro h F;have I:=xB jD.drew F)))
  |(go_at_call 25;(first|(have q:=I;refine(Z.o _ I).mono ?_;rintro e m ⟨N,h,rfl,S,Q⟩;have H:=xB I Q;have k:=(O.o.z H).R.box rfl;have k:=vE a5 c5 N h ⟨U,t,r,z,lsn,gA,iA⟩;dsimp only at k)|(refine(Z.o _ jD.drew).mono ?_;rintro e m ⟨N,h,rfl,S,Q⟩;have H:=xB jD.drew Q;have k:=vE a5 c5 N h ⟨U,t,r,z,lsn,gA,iA⟩;dsimp only at k))))
 all_goals
  go_wp2;first
  |exact PA (M:=⟨U,t,r,z,lsn,gA,iA⟩) rfl rfl rfl rfl (O.o.z H) (F5.o.z H) S.tens
  |exact PA (M:=⟨U,t,r,z,lsn,gA,iA⟩) rfl rfl rfl rfl (O.o.z I) (F5.o.z I) (S.tens.z F)
end
def XL(c:kC)(w:jA)(f:mH c=iA)(k:iH w)(b:kI w):
 lA prog 6 #[oE c,.agg #[uA eA 0 0,dB 1000000,dB 0,dB 0,dB 0,vA gA]] w λe g=>MJ nd1 (dB 0) w e g:=
 TJ c eA 0 dk0 dk1 ⟨1,1,0⟩ 0 0 [] w f b (Ca rfl) bQ (by decide) (by decide) λp W B P D m h=>UR c h rfl rfl (λX a=>aLb c a f (k.z (xB m a.below))) λX a=>(aHf a).mono λe g ⟨i,j,d⟩=>⟨i,j,λY h l m _ n o=>⟨d.blk n (by decide),o.apart d⟩⟩
def aEw(c:vB){n:Int}:nN (GQ c n)=[]:=by
 have a:(tF n).toList≠vP.toList:=λe=>(qU n).2 (toList_inj e);have b:FZ.toList≠vP.toList:=λe=>absurd (toList_inj e) (by decide);simp[nN,GQ,lE,a,b]
def XM(c:kC)(a:nC)(o:Nat)(k lsn b n:Int)(d:List kB)(w:jA)(C:wB w a (GQ (bH lsn b d) n))(i:DG (GQ (bH lsn b d) n))(H:rE (GQ (bH lsn b d) n) 1000000 k 0 0=iA)(s:pC c b d=iA)(J:qX lsn d)(G:MI d)(F:xV b)(I:(bH lsn b d).size<=1000000)(r:cB d+fC d<=1048576)(x:1<=n)(y:n<=90)(z:iH w)(j:kI w)(A:VS w):
 lA prog 6 #[oE c,.agg #[uA a 2 o,dB 1000000,dB k,dB 0,dB 0,vA gA]] w λe u=>MJ ⟨⟨GQ (bH lsn b d) n,1000000,k,0,0,gA⟩,⟨n,n,0⟩,b,d,lsn,gA,iA⟩ (dB 0) w e u:=
 TJ c a o ⟨GQ (bH lsn b d) n,1000000,k,0,0,gA⟩ _ _ lsn b d w (dH s).1 j C i H r λN W B P D m h=>UR c h rfl (by rw[aEw];rfl) (λX f=>aLc c f rfl s J G F I r (z.z (xB m f.below))) λX f=>(aHg f rfl rfl x y (A.z (xB m f.below))).mono λe u ⟨K,L,t⟩=>⟨K,L,λY h l m M p v=>⟨t.blk p λe=>by
  have:=(show X.heap[h]?=_ from p).symm.trans (e ▸ (show X.heap[P]?=_ from f.wr));simp only[Qa,Obj.cells.injEq]at this;exact absurd this.2.1 (by decide),v.re λg E q=>⟨t.block g E λe=>by have:=q.1;omega,q⟩⟩⟩
