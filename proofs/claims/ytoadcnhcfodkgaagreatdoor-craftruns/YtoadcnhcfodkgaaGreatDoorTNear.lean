/-
  Rounded products, quotients and roots (Near), beside package trig's steps, for the seat YtoadcnhcfodkgaaGreatDoor. No Go text in sight.
-/
import Derived.Test.YtoadcnhcfodkgaaGreatDoorTMath
import Derived.Test.YtoadcnhcfodkgaaGreatDoorNear
