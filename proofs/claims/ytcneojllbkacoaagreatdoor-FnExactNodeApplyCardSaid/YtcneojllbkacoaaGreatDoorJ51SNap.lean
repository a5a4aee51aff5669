import Derived.Test.YtcneojllbkacoaaGreatDoorJ46SNdF
import Derived.Test.YtcneojllbkacoaaGreatDoorJ49SApl
import Derived.Test.YtcneojllbkacoaaGreatDoorJ47SBat
import Derived.Test.YtcneojllbkacoaaGreatDoorJ41SApp
set_option maxRecDepth 100000
set_option maxHeartbeats 8000000
namespace Go.Proofs.YtcneojllbkacoaaGreatDoor
open Go.RowKit Go.Maps
attribute [local go_sem] aOv GB aPz lA.drewI XW.drewI XW.new XW.alloc XW.alloc2
def aHw (V:bD×Int) (w:World) (e:Ending) (w':World):Prop:=
 ∃a ca b cb,e=.returned (.tuple #[.agg (tD a ca b cb V.1),.int .i64 V.2])∧kA w' a V.1.d.fs∧pB w' b V.1.ts∧Below w.heap.size w w'
theorem aPf {w W W':World}{c:eC}{cs:Array Value}{V:bD×Int}{M:bD}{code:Int}{a b:Option Addr}{ca cb:Nat} (P:NP w W c cs) (E:V=(M,code)) (hF:kA W a M.d.fs) (hT:pB W b M.ts) (ht:dA (·=w.heap.size+1+1) W W'):aHw V w (.returned (.tuple #[.agg (tD a ca b cb M),.int .i64 code])) W':=by
 subst E;exact ⟨a,ca,b,cb,rfl,hF.store P.R (PM _ _ _ _ _) ht,hT.store P.R (PM _ _ _ _ _) ht,P.B.trans (ht.below P.B.size (fun k hk e=>by omega))⟩
theorem aQr {N:bD}{b:Bool} (h:upB N=b):b=false∧N.up=false∨b=false∧N.up=true∧N.deg=true∨b=true∧N.up=true∧N.deg=false:=by
 subst h;unfold upB;cases N.up<;>cases N.deg<;>simp
theorem PZ {fn:Func}{t:Act}{w W:World}{c:eC}{cs:Array Value}{V:bD×Int}{M:bD}{code:Int}{a b:Option Addr}{ca cb:Nat} (h:fn.results=#[.cell 6 45,.tmp 7]) (h6:t.tmps.getD 6 undef=.pointer (some ⟨w.heap.size+1+1,0,none⟩)) (h7:t.tmps.getD 7 undef=.int .i64 code) (hd:t.defers=[]) (P:NP w W c cs) (E:V=(M,code)) (hF:kA W a M.d.fs) (hT:pB W b M.ts):bodyPost Tryz.prog fn (fun e w'=>aHw V w e w') .ret t (W.setRow (w.heap.size+1+1) (tD a ca b cb M)):=
 bodyPost_ret (aJu h h6 h7 P.R.row (GB _ _ _ _ _)) hd (aPf P E hF hT (kQ _ _ _))
theorem WX (c:eC) (a b:Option Addr) (ca cb:Nat) (N:bD) (ar:Option Addr) (capr:Nat) (rs:List pC) (w:World) (h:aPo w a b N ar rs):
 Calls Tryz.prog 6 #[wG c,.agg (tD a ca b cb N),.slice ar rs.length capr] w fun e w'=>aHw (gP c N rs) w e w':=by
 have hb:=h.bulk;have HCF:=iA (fun W=>BO c W);have HCP:Hid (∀W,Below w.heap.size w W→Calls Tryz.prog 20 #[.agg (tD a ca b cb N)] W fun e w'=>∃a ca b cb,e=.returned (.agg (tD a ca b cb N))∧kA w' a N.d.fs∧pB w' b N.ts∧Below W.heap.size W w'):=fun W hW=>(FM a b ca cb N W (h.files.later hW) h.fit.len (h.tens.later hW) (by omega) (QV (by omega))).mono fun e w' ⟨a,ca,b,cb,he,h1,h2,h3⟩=>⟨a,ca,b,cb,he,h1.files,h2.tens,h3⟩
 have HAR:=iA (fun W (hW:Below w.heap.size w W)=>JI c N.now b cb N.ts ar capr rs W (h.tens.later hW) (h.recs.later hW) hb);have HWI:=iA (fun W=>sC N.lsn 0 999999999999999 W);have HBT:=iA (fun (hl:mA N.lsn 0 999999999999999=true) W (hW:Below w.heap.size w W)=>WU (N.lsn+1) ar capr rs W (h.recs.later hW) (RZ (by omega)) h.rng (by have:=YB hl;constructor<;>omega) (by omega));have HAP:=iA (fun W (hW:Below w.heap.size w W)=>WT a ca N.d.fs N.d.c N.d.k N.d.cr N.d.fl N.d.dn N.l.first N.l.last N.l.size (eJ (N.lsn+1) rs) c.sg W (h.files.later hW) h.fit (aBy (by omega)));have HFL:Hid (∀W a' ca' K L,N.up=true→Below w.heap.size w W→Calls Tryz.prog 25 #[.agg (tD a ca b cb N),.agg #[.slice a' K.fs.length ca',.int .i64 K.c,.int .i64 K.k,.int .i64 K.cr,.int .i64 K.fl,.bool K.dn],.agg #[.int .i64 L.first,.int .i64 L.last,.int .i64 L.size]] W fun e w'=>∃b cb,e=.returned (.agg (tD a' ca' b cb ⟨K,L,N.now,N.ts,N.lsn,true,!K.dn⟩))∧pB w' b N.ts∧Below W.heap.size W w'):=fun W a' ca' K L hu hW=>(OZ a b a' ca cb ca' N K L W (h.files.later hW) h.fit.len (h.tens.later hW) (by omega) (QV (by omega)) hu).mono fun e w' ⟨b,cb,he,h2,h3⟩=>⟨b,cb,he,h2.tens,h3⟩
 have HV0:=iA (fun h=>aNu (c:=c) (N:=N) (rs:=rs) h);have HV1:=iA (fun h=>aNw (c:=c) (N:=N) (rs:=rs) h);have HK:=iA (aNv (N:=N) (R:=yC N.d N.l (eJ (N.lsn+1) rs) c.sg) (S:=rE c N.now N.ts rs));clear h hb;unfold qR at HAR;unfold aPq at HAP;unfold wG at *;generalize gP c N rs=V at *;generalize rE c N.now N.ts rs=A at *;generalize eJ (N.lsn+1) rs=PL at *;have hR:Hid (yC N.d N.l PL c.sg=yC ⟨N.d.fs,N.d.c,N.d.k,N.d.cr,N.d.fl,N.d.dn⟩ ⟨N.l.first,N.l.last,N.l.size⟩ PL c.sg):=rfl;rw [←hR.out] at HAP;clear hR;generalize yC N.d N.l PL c.sg=R at *;obtain ⟨n5,t5,o5⟩:=A;obtain ⟨K,L,x⟩:=R;have fz:=PN;dsimp only at HAR HAP HV1 HK;have HB0:=iA (NP.new (w:=w) (c:=c) (cs:=tD a ca b cb N));go_enter Tryz.func6,Tryz.ntmps6;go_wp2_with fail;refine (HCF.out _).mono ?_;rintro e w1 ⟨rfl,hb⟩;have P:=iA (HB0.out.later hb);clear hb HCF HB0;obtain ⟨x0,x1,x2,x3,x4,x5,x6,x7,x8,x9,y0,y1,y2,y3,y4⟩:=P.out.cells rfl;cases hc:jH c with
 | false=>
   have E:=iA (HV0.out hc);go_wp2;exact PZ (ca:=0) (cb:=0) rfl rfl rfl rfl P.out E.out (Or.inl rfl) (Or.inl rfl)
 | true=>
   replace HV1:=iA (HV1.out hc);rcases HV1.out with ⟨hu,E⟩ | ⟨hu,⟨rfl,E⟩ | ⟨rfl,⟨hl,E⟩ | ⟨hl,⟨rfl,E⟩ | ⟨hp,E⟩⟩⟩⟩
   rotate_left 4;rcases HK.out with ⟨e0,e1,e2,e3,E2⟩ | ⟨e0,e4,⟨e1 | ⟨e1,e2 | ⟨e2,e3⟩⟩,E2⟩ | ⟨e1,e2,e3,E2⟩⟩
   all_goals (try replace E:=E.trans E2)
   all_goals
    rcases aQr hu with ⟨k0,k1⟩ | ⟨k0,k1,k2⟩ | ⟨k0,k1,k2⟩
   all_goals cases k0
   all_goals
    replace E:=iA E;clear HK HV1 hu;(try clear E2);(try (have hq:=YB hl;obtain ⟨l0,l1⟩:=hq));have rN:=PK a ca b cb N 45;have fN:=oX a ca b cb N;rw [k1] at rN fN;(try (rw [k2] at rN fN;clear k2));replace k1:=iA k1;go_wp2_with (first
     | (go_at_call 20;refine (HCP.out _ (by with_reducible first | exact P.out.B | exact (P.out.later (bA _ _)).B | exact ((P.out.later (bA _ _)).later (bA _ _)).B)).mono ?_;rintro e w9 ⟨a9,c9,b9,d9,rfl,hF,hT,hb⟩;(first | replace P:=iA (P.out.later hb) | replace P:=iA ((P.out.later (bA _ _)).later hb) | replace P:=iA (((P.out.later (bA _ _)).later (bA _ _)).later hb));clear hb x0 x1 x2 x3 x4 x5 x6 x7 x8 x9 y0 y1 y2 y3 y4;obtain ⟨x0,x1,x2,x3,x4,x5,x6,x7,x8,x9,y0,y1,y2,y3,y4⟩:=P.out.cells rfl)
     | (go_at_call 21;refine (HAR.out _ P.out.B).mono ?_;rintro e w5 ⟨a5,c5,rfl,ho,hb⟩;have O5:=iA ho.tens;replace P:=iA (P.out.later hb);clear ho hb x0 x1 x2 x3 x4 x5 x6 x7 x8 x9 y0 y1 y2 y3 y4;obtain ⟨x0,x1,x2,x3,x4,x5,x6,x7,x8,x9,y0,y1,y2,y3,y4⟩:=P.out.cells rfl)
     | (go_at_call 22;refine (HWI.out _).mono ?_;rintro e w6 ⟨rfl,rfl⟩)
     | (go_at_call 23;refine (HBT.out hl _ (P.out.later (bA _ _)).B).mono ?_;rintro e w7 ⟨rfl,hb⟩;have X7:=(lA.new w5 _ _).later hb;replace hb:=rA (bA _ _) hb;replace P:=iA (P.out.later hb);replace O5:=iA (O5.out.later hb);clear hb x0 x1 x2 x3 x4 x5 x6 x7 x8 x9 y0 y1 y2 y3 y4;obtain ⟨x0,x1,x2,x3,x4,x5,x6,x7,x8,x9,y0,y1,y2,y3,y4⟩:=P.out.cells rfl)
     | (go_at_call 24;refine (HAP.out _ P.out.B).mono ?_;rintro e w8 ⟨a8,c8,rfl,ho,hb⟩;have O8:=iA ho;replace P:=iA (P.out.later hb);replace O5:=iA (O5.out.later hb);replace X7:=X7.later hb;obtain ⟨z0,z1⟩:=X7.c2;have z2:=aA X7;have z3:=Nat.ne_of_lt z2;have fM:=oX a8 c8 a5 c5 ⟨K,L,n5,t5,N.lsn+1,false,true⟩;dsimp only at fM;clear fz ho hb X7 x0 x1 x2 x3 x4 x5 x6 x7 x8 x9 y0 y1 y2 y3 y4;obtain ⟨x0,x1,x2,x3,x4,x5,x6,x7,x8,x9,y0,y1,y2,y3,y4⟩:=P.out.cells rfl)
     | (go_at_call 25;refine (HFL.out _ _ _ _ _ k1.out ((P.out.later (bA _ _)).later (bA _ _)).B).mono ?_;rintro e w9 ⟨b9,d9,rfl,hT,hb⟩;replace hb:=rA (rA (bA _ _) (bA _ _)) hb;replace P:=iA (P.out.later hb);have hF:=O8.out.later hb;clear hb z0 z1 x0 x1 x2 x3 x4 x5 x6 x7 x8 x9 y0 y1 y2 y3 y4;obtain ⟨x0,x1,x2,x3,x4,x5,x6,x7,x8,x9,y0,y1,y2,y3,y4⟩:=P.out.cells rfl))
   ·exact PZ rfl rfl rfl rfl ((P.out.later (bA _ _)).later (bA _ _)) E.out ((O8.out.later (bA _ _)).later (bA _ _)) ((O5.out.later (bA _ _)).later (bA _ _))
   all_goals exact PZ rfl rfl rfl rfl P.out E.out hF hT
end Go.Proofs.YtcneojllbkacoaaGreatDoor
